import PyProof.Rows.All
import Wide.All
import OpenK.AllK
import Wide.FinOn
import Lean
import PyProof.EqAt
import PyProof.EqKinds
import PyProof.TupleCall
import PySem.Challenge.RW_wordscales_k11_whole_other_numbers_same
abbrev LPd:=List PySem.PyData
abbrev LAd:=List PySem.Addr
abbrev LNt:=List Nat
abbrev LZr:=List (Nat->Int)
abbrev LQr:=List (Nat->Rat)
abbrev LSr:=List PySem.Str
abbrev LVl:=List PySem.Value
abbrev LSA:=List (PySem.Str×PySem.Addr)
abbrev ShX:=PySem.Shared
abbrev AdX:=PySem.Addr
abbrev PdX:=PySem.PyData
local macro_rules| `(tactic|trivial)=>`(tactic|first |exact .inl rfl|exact .inr rfl|assumption)
local macro_rules|`(tactic|trivial)=>`(tactic|first |exact Or.inl rfl|exact Or.inr (Or.inl rfl)|exact Or.inr (Or.inr rfl))
noncomputable section
abbrev NDx(x:PySem.Str):Prop:=(x==("__debug__":PySem.Str))=false
abbrev NCx(x:PySem.Str):Prop:=(x==("__classdict__":PySem.Str))=false
abbrev VSx:=PySem.Value->PySem.Shared->Prop
abbrev PNx:=List (PySem.Addr×PySem.Obj)
abbrev FRx:=PySem.W.Frag
abbrev Q1x:=Nat->Rat
abbrev Q2x:=Nat->Nat->Rat
abbrev Q3x:=Nat->Nat->Nat->Rat
abbrev Z1x:=Nat->Int
set_option Elab.async false
set_option linter.all false
set_option maxRecDepth 100000
def qe:=@List.length_map
def qf:=@Nat.le_refl
def qg:=@List.getElem?_eq_some_iff
def qj:=@if_pos
def qk:=@List.getElem?_eq_getElem
def qm:=@PySem.Heap.get?_push_of_some
def qo:=@if_neg
def qp:=@Option.bind_some
def qq:=@List.getElem?_map
def qr:=@List.mem_append
def qt:=@PySem.wpAny_bind
def qu:=@List.length_range
def qw:=@Nat.le_trans
def qx:=@List.mem_cons
def qy:=@List.length_append
def qz:=@List.getElem?_append_right
def qA:=@List.mem_cons_of_mem
def qB:=@List.getD_eq_getElem?_getD
def qE:=@List.mem_range
def qF:=@List.size_toArray
def qG:=@decide_eq_true
def qH:=@List.getElem?_set_ne
def qI:=@Nat.lt_of_le_of_lt
def qJ:=@PySem.Heap.get?_push_size
def qK:=@List.getElem?_append_left
def qL:=@Bool.false_ne_true
def qM:=@decide_eq_false
def qN:=@List.mem_of_getElem?
def qO:=@PySem.Heap.lt_size
def qP:=@List.getElem?_of_mem
def qQ:=@List.mem_singleton
def qR:=@congrArg
def qS:=@List.mem_append_right
def qT:=@List.mem_map
def qU:=@PySem.wpAny_pure
def qW:=@List.map_append
def qX:=@List.length_cons
def qY:=@PySem.PassesOwn.never
def qZ:=@Nat.mul_le_mul_right
def q9:=@Nat.lt_of_lt_of_le
def ka:=@List.mem_cons_self
def kb:=@Option.some.inj
def kd:=@List.getElem?_range
def ke:=@List.nodup_cons
def kf:=@Int.toNat_natCast
def kg:=@Int.natAbs_mul
def kh:=@Rat.intCast_natCast
def ki:=@Rat.intCast_mul
def kj:=@List.append_nil
def km:=@Nat.le_of_not_lt
def kn:=@List.mem_reverse
def kq:=@List.lookup_cons
def ku:=@List.mem_filter
def kv:=@Nat.pow_le_pow_right
def kx:=@Classical.byContradiction
def ky:=@Nat.mul_le_mul
def kz:=@List.getElem?_replicate
def kC:=@List.map_congr_left
def kD:=@List.length_take
def kE:=@Nat.zero_le
def kG:=@List.getElem?_set_self
def kH:=@Nat.mul_pos
def kI:=@List.length_singleton
def kJ:=@List.getElem?_eq_none
def kK:=@Rat.zero_mul
def kO:=@PySem.mem_of_lookup
def kP:=@Rat.mul_eq_zero
def kQ:=@PySem.F.plainAttrs_list
def kR:=@Nat.lt_succ_self
def kS:=@Nat.pow_lt_pow_right
def kT:=@Int.natAbs_natCast
def kW:=@beq_eq_false_iff_ne
def kX:=@Rat.mul_comm
def kY:=@List.map_map
def kZ:=@List.getElem?_cons_succ
def k4:=@List.not_mem_nil
def k5:=@PySem.wpAny_loadPart'
def k6:=@Nat.ne_of_lt
def k7:=@List.length_set
def k8:=@List.reverse_reverse
def k9:=@Nat.lt_irrefl
def gc:=@Nat.le_of_dvd
def gh:=@PySem.intBits_le_of_natAbs
def gm:=@Nat.sub_self
def gp:=@List.nodup_append
def gq:=@Nat.not_lt_zero
def gr:=@List.pairwise_iff_getElem
def gu:=@PySem.wpAny_mono
def gw:=@PySem.Heap.size_push
def gx:=@List.take_length
def gy:=@List.getElem_mem
def gA:=@Rat.mul_zero
def gB:=@List.length_eq_zero_iff
def gC:=@List.getElem?_set
def gD:=@List.replicate_succ
def gE:=@PyProof.Rows.callWith_type1
def gG:=@Ne.symm
def gH:=@Nat.succ_mul
def gI:=@List.map_cons
def gJ:=@beq_iff_eq
def gK:=@List.length_eraseIdx_of_lt
def gL:=@PySem.wpAny_field
def gM:=@Option.isNone_iff_eq_none
def gN:=@List.drop_eq_getElem_cons
def gO:=@Option.map_some
def gP:=@List.range_succ
def gQ:=@Nat.pow_add
def gR:=@List.take_add_one
def gS:=@List.length_eraseIdx
def gT:=@List.ext_getElem?
def gU:=@List.append_assoc
def gV:=@List.mem_of_mem_eraseIdx
def gX:=@Nat.pow_le_pow_left
def gY:=@Nat.mul_le_mul_left
def gZ:=@Rat.div_def
def g0:=@Rat.div_mul_cancel
def g6:=@PySem.wpAny_seqItems
def g9:=@Int.mul_ne_zero
def hZ:=@List.flatten_cons
def h9:=@Int.fdiv_eq_of_eq_mul_right
def ma:=@Int.ediv_eq_of_eq_mul_right
def me:=@PySem.wpAny_setField_rec
def mf:=@PySem.call_meets
def mh:=@PySem.wpAny_passesOwn
def mi:=@Nat.one_mul
def mj:=@Nat.mul_comm
def ml:=@Nat.le_add_right
def mr:=@Int.mul_zero
def mv:=@List.length_reverse
def mw:=@PySem.F.slot_tuple_iterator_next
def mz:=@Rat.natCast_mul
def mC:=@PySem.F.slot_tuple_mul
def mD:=@or_false
def mE:=@Rat.divInt_eq_div
def mG:=@PySem.wpAny_comprehension_free
def mH:=@Nat.lt_succ_of_lt
def mI:=@Nat.le_mul_of_pos_left
def mJ:=@Int.fmod_nonneg_of_pos
def mM:=@PySem.wpAny_callSpecial?_slot
def mN:=@PySem.F.type_list_pop
def mP:=@PySem.F.slot_list_pop
def mQ:=@List.length_replicate
def mR:=@List.drop_length
def mU:=@Bool.and_eq_true
def mV:=@PySem.wpAny_truthy_bool
def mW:=@PySem.intBits_mul_le
def mX:=@PySem.intBits_le_iff
def mY:=@Nat.le_succ
def mZ:=@Rat.num_eq_zero
def m9:=@Rat.intCast_neg
def nc:=@Nat.min_eq_left
def ng:=@List.of_mem_zip
def ni:=@List.forIn_cons
def nj:=@Int.natCast_mul
def nk:=@PySem.AutoSeq1.idx_int
def nr:=@Nat.zero_add
def nt:=@Nat.ne_of_gt
def nu:=@Nat.le_of_lt
def nv:=@Rat.mul_inv_cancel
def ny:=@Int.natAbs_neg
def nD:=@of_decide_eq_true
def nE:=@PySem.F.type_list_append
def nG:=@PySem.F.slot_list_append
def nH:=@PySem.F.args_tuple_add_2
def nI:=@Int.mul_fdiv_cancel_left
def nJ:=@decide_eq_decide
def nK:=@PySem.wpAny_Call_Name_kw
def nL:=@PySem.F.entry_tuple_add
def nM:=@Nat.le_mul_of_pos_right
def nN:=@List.nodup_range
def nO:=@PySem.F.slot_tuple_add
def nQ:=@Nat.le_of_eq
def nU:=@Nat.add_comm
def nV:=@List.take_of_length_le
def nX:=@PySem.wpAny_newObj_type
def nY:=@PySem.wpAny_standAt
def nZ:=@Rat.one_mul
def n8:=@PySem.wpAny_call_entry
def pd:=@Nat.mul_add
def pf:=@List.mem_of_mem_take
def pj:=@List.forIn_nil
def pk:=@List.length_pos_iff
def pq:=@List.flatMap_append
def pw:=@List.filterMap_cons
def px:=@Array.length_toList
def pz:=@PySem.wpAny_execs_nil
def pC:=@PySem.F.slot_zip_next
def pE:=@PySem.F.slot_int_rmul
def pF:=@decide_eq_true_iff
def pG:=@Rat.num_divInt_den
def pH:=@Int.fmod_lt_of_pos
def pI:=@List.eraseIdx_append_of_length_le
def pJ:=@if_true
def pK:=@PySem.wpAny_updateSeq_pair
def pL:=@Nat.lt_trichotomy
def pM:=@Nat.lt_trans
def pN:=@Nat.dvd_refl
def pO:=@Nat.succ_le_succ
def pP:=@List.mem_flatMap
def pQ:=@List.length_drop
def pR:=@PySem.wpAny_onRaise
def pS:=@Nat.pow_mul
def pU:=@Nat.log2_lt
def pV:=@PySem.typeIs_int
def pW:=@PySem.F.args_tuple_mul_2
def pX:=@List.nil_append
def pY:=@List.length_nil
def pZ:=@Int.natCast_add
def p5:=@PySem.wpAny_assign_Name
def p6:=@PySem.concat_meets
def p7:=@PySem.codeAny_mono
def p9:=@PySem.F.entry_tuple_mul
def ba:=@List.perm_ext_iff_of_nodup
def bb:=@Int.fdiv_eq_ediv_of_nonneg
def bc:=@Bool.false_and
def bf:=@Bool.and_false
def bg:=@List.extract_eq_take_drop
def bh:=@PySem.noFill_tuple_add
def bj:=@List.set_eq_of_length_le
def bo:=@List.getElem?_take_of_lt
def br:=@Bool.true_and
def bu:=@PySem.F.slot_tuple_rmul
def bw:=@Nat.exists_eq_add_of_le
def bx:=@Nat.add_sub_cancel_left
namespace L2
open PySem PySem.Spec PyProof.Rows
abbrev Key:=Sum Int Str
def zkW:Key->Value->Bool
 | .inl k,v=>Value.isInt k v
 | .inr x,v=>Value.isStrOf x v
def znB(w:World):Key->Int
 | .inl k=>hashInt k
 | .inr x=>hashStr w x
theorem xq:∀{k:Key} {v:Value},zkW k v=true->(∃i t,k=Sum.inl i/\v=Value.int i t)\/(∃x t,k=Sum.inr x/\v=Value.str x t)
 | .inl i,v,h=>by
  obtain⟨t,e⟩:=Value.isInt_shape (k:=i) (v:=v) h;exact .inl ⟨i,t,rfl,e⟩
 | .inr x,v,h=>by
  obtain⟨t,e⟩:=Value.isStrOf_shape (x:=x) (v:=v) h;exact .inr ⟨x,t,rfl,e⟩
def zmF(a b:Int):decide ((Sum.inl a:Key)=Sum.inl b)=(a==b):=by
 by_cases e:a=b
 ·subst e;simp
 ·have h:¬(Sum.inl a:Key)=Sum.inl b:=λq=>e (Sum.inl.inj q)
  rw[qM h];exact(kW.mpr e).symm
def zll(a b:Str):decide ((Sum.inr a:Key)=Sum.inr b)=decide (a=b):=by
 by_cases e:a=b
 ·subst e;simp
 ·have h:¬(Sum.inr a:Key)=Sum.inr b:=λq=>e (Sum.inr.inj q)
  rw[qM h,qM e]
def zlK(a:Int)(b:Str):decide ((Sum.inl a:Key)=Sum.inr b)=false:=qM (λq=>nomatch q)
def zlI(a:Str)(b:Int):decide ((Sum.inr a:Key)=Sum.inl b)=false:=qM (λq=>nomatch q)
def zfn(prog:Program)(w:World):PySem.KeyKind prog w Key where
 is:=zkW
 hash:=znB w
 inj:=λv a b ha hb=>by
  rcases xq ha with⟨i,t,rfl,rfl⟩|⟨x,t,rfl,rfl⟩
  ·rcases xq hb with⟨j,u,rfl,e⟩|⟨y,u,rfl,e⟩
   ·injection e with e1 _;rw[e1]
   ·exact nomatch e
  ·rcases xq hb with⟨j,u,rfl,e⟩|⟨y,u,rfl,e⟩
   ·exact nomatch e
   ·injection e with e1 _;rw[e1]
 byValue:=λk v h=>by
  rcases xq h with⟨i,t,rfl,rfl⟩|⟨x,t,rfl,rfl⟩<;>rfl
 pyHash:=λhv h=>by
  rcases xq hv with⟨i,t,rfl,rfl⟩|⟨x,t,rfl,rfl⟩
  ·exact wpAny_pyHash_int h
  ·exact wpAny_pyHash_str h
 eqBool:=λhu hv h=>by
  rcases xq hu with⟨i,t,rfl,rfl⟩|⟨x,t,rfl,rfl⟩
  ·rcases xq hv with⟨j,u,rfl,rfl⟩|⟨y,u,rfl,rfl⟩
   ·rw[zmF] at h;exact wpAny_eqBool_int h
   ·rw[zlK] at h;exact SeqAt.EqAt.int_str i t y u _ _ _ _ h
  ·rcases xq hv with⟨j,u,rfl,rfl⟩|⟨y,u,rfl,rfl⟩
   ·rw[zlI] at h;exact SeqAt.EqAt.str_int x t j u _ _ _ _ h
   ·rw[zll] at h;exact wpAny_eqBool_str h
 «strs»:=λk x t v h=>by
  rcases xq h with⟨i,u,rfl,e⟩|⟨y,u,rfl,e⟩
  ·exact nomatch e
  ·injection e with e1 _
   subst e1;cases v<;>rfl
inductive V where
 |non|bl (b:Bool)|int (i:Int)|str (x:Str)|byt (b:Array UInt8)|flt (b:UInt64)|ref (a:AdX)|ty (n:String)
 deriving DecidableEq
def RelV:V->Value->Prop
 | .non,u=>u=Value.none
 | .bl b,u=>u=Value.bool b
 | .int i,u=>∃t,u=Value.int i t
 | .str x,u=>∃t,u=Value.str x t
 | .byt b,u=>∃t,u=Value.bytes b t
 | .flt b,u=>∃t,u=Value.float b t
 | .ref a,u=>u=Value.ref a
 | .ty n,u=>u=Value.type n
abbrev Vals:List V->List Value->Prop:=Paired RelV
def Vals.length{xs:List V}{us:LVl}(r:Vals xs us):xs.length=us.length:=Paired.length r
theorem Vals.get:∀{xs:List V} {us:LVl} {i:Nat} {x:V},Vals xs us->xs[i]?=some x->∃u,us[i]?=some u/\RelV x u
 |_,_,_,_,.nil,e=>by simp at e
 |_,_,0,_,.cons r _,e=>by simp at e;subst e;exact⟨_,rfl,r⟩
 |_,_,i+1,x,.cons _ t,e=>by
  obtain⟨u,h1,h2⟩:=Vals.get (i:=i) (x:=x) t (by simpa using e);exact⟨u,by simpa using h1,h2⟩
theorem Vals.set{x:V}{u:Value}(r:RelV x u):∀{xs:List V} {us:LVl} (i:Nat),Vals xs us->Vals (xs.set i x) (us.set i u)
 |_,_,_,.nil=>.nil
 |_,_,0,.cons _ t=>.cons r t
 |_,_,i+1,.cons q t=>.cons q (Vals.set r i t)
theorem Vals.append:∀{xs ys:List V} {us ws:LVl},Vals xs us->Vals ys ws->Vals (xs++ys) (us++ws)
 |_,_,_,_,.nil,s=>s
 |_,_,_,_,.cons r t,s=>.cons r (Vals.append t s)
theorem Vals.take:∀{xs:List V} {us:LVl} (n:Nat),Vals xs us->Vals (xs.take n) (us.take n)
 |_,_,0,_=>.nil
 |_,_,_+1,.nil=>.nil
 |_,_,n+1,.cons r t=>.cons r (Vals.take n t)
theorem Vals.drop:∀{xs:List V} {us:LVl} (n:Nat),Vals xs us->Vals (xs.drop n) (us.drop n)
 |_,_,0,r=>r
 |_,_,_+1,.nil=>.nil
 |_,_,n+1,.cons _ t=>Vals.drop n t
def vC:Option V->Option Value->Prop
 |some v,some u=>RelV v u
 |none,none=>True
 |_,_=>False
def KV{κ:Type}:List (κ×V)->List (κ×Value)->Prop:=Paired λ(p:κ×V) (q:κ×Value)=>p.1=q.1/\RelV p.2 q.2
def kV:Key->V
 | .inl i=>.int i
 | .inr x=>.str x
inductive HO where
  |lst (xs:List V)
  |tup (xs:List V)
  |dK (kvs:List (Key×V))|dT (kvs:List (List Key×V))
  |set (S:Int->Bool) (n:Nat)
  |ins (C dx:AdX) (fs:List (Str×V))
  |own (x:AdX)
  |xd (fs:List (Str×V))
  |met (f x:AdX)
  |rng (lo hi:Int)
  |frz (o:Obj) (u:HO)
  |tbl (ps:Array Value)
  |ext (φ:Heap->Prop)
abbrev Hp:=Addr->Option HO
def upd(H:Hp)(a:AdX)(o:HO):Hp:=λb=>if b=a then some o else H b
def zH{H:Hp}{a:AdX}{o:HO}:upd H a o a=some o:=by unfold upd;rw[qj rfl]
def zV{H:Hp}{a b:AdX}{o:HO}(h:b≠a):upd H a o b=H b:=by unfold upd;rw[qo h]
def jN{H:Hp}{a b:AdX}{o:HO}(h:H a=some o)(h':H b=none):a≠b:=by
 intro e;subst e;rw[h] at h';cases h'
section
variable(P:Program)(w:World)
def vv(H:Hp)(h:Heap)(a:AdX):HO->Prop
 | .lst xs=>xs.length<=sizeLine/\∃(its:LVl)(n:Nat),Vals xs its/\h.get? a=some { cls:=.type "list",data:=.seq its.toArray n }
 | .tup xs=>xs.length<=sizeLine/\∃its:List Value,Vals xs its/\IsTup h a its.toArray
 | .dK kvs=>kvs.length<=sizeLine/\(a==sysModules)=false/\∃vs,KV kvs vs/\h.DictOf (zfn P w) a vs
 | .dT kvs=>kvs.length<=sizeLine/\(a==sysModules)=false/\∃xs:List (List Key×Addr×Value),
   Paired (λ(p:List Key×V) (q:List Key×Addr×Value)=>p.1=q.1/\H q.2.1=some (.tup (p.1.map kV))/\RelV p.2 q.2.2) kvs xs/\
   ∃o es ep,h.get? a=some o/\o.ExactDict/\o.data=.dict es ep/\es.toList=xs.map (entryOfKey (tupleKind (zfn P w)))/\(xs.map (·.1)).Nodup
 | .set S n=>h.SetOf (intKind P w) a S n
 | .ins C dx fs=>H dx=some (.own a)/\fs.length<=1000/\dx≠a/\h.get? a=some (W.instObj C dx)/\
   ∃mA,h.Ns1 dx mA/\(∀f,vC (fs.lookup f) (mA f))/\PySem.Within mA (fs.map (·.1))
 | .own _=>∃o,h.get? a=some o
 | .xd fs=>∃mA,h.Ns1 a mA/\∀f,vC (fs.lookup f) (mA f)
 | .rng lo hi=>∃t u v,h.get? a=some { cls:=.type "range",data:=.fields #[.int lo t,.int hi u,.int 1 v] }
 | .frz o u=>h.get? a=some o/\vv H h a u
 | .tbl ps=>h.get? a=some { cls:=.none,data:=.fields ps }
 | .met f x=>h.get? a=some (W.methodObj (.ref f) (.ref x))
 | .ext φ=>φ h/\(∃o,h.get? a=some o)/\∀h1 h2:Heap,φ h1->(∀o,h1.get? a=some o->h2.get? a=some o)->φ h2
def HOk(H:Hp)(h:Heap):Prop:=∀a o,H a=some o->vv P w H h a o
end
section
variable{P:Program}{w:World}{H H':Hp}{h h':Heap}{a:AdX}{o:HO}
def vv.lt(x:vv P w H h a o):a<h.objs.size:=by
 cases o with
 |lst xs=>have⟨_,_,_,_,e⟩:=x;exact qO e
 |tup xs=>have⟨_,_,_,p⟩:=x;exact p.lt
 |dK kvs=>have⟨_,_,_,_,o,_,_,e,_⟩:=x;exact qO e
 |dT kvs=>have⟨_,_,_,_,o,_,_,e,_⟩:=x;exact qO e
 |set S n=>have⟨o,_,_,_,e,_⟩:=x;exact qO e
 |ins C dx fs=>have⟨_,_,_,e,_⟩:=x;exact qO e
 |own y=>have⟨_,e⟩:=x;exact qO e
 |xd fs=>have⟨_,⟨_,_,_,e,_⟩,_⟩:=x;exact qO e
 |rng lo hi=>have⟨_,_,_,e⟩:=x;exact qO e
 |frz ob u=>have⟨e,_⟩:=x;exact qO e
 |tbl ps=>exact qO (show h.get? a=some _ from x)
 |met f y=>exact qO (show h.get? a=some _ from x)
 |ext φ=>have⟨_,⟨_,e⟩,_⟩:=x;exact qO e
theorem Paired.znp{α β:Type}{F G:α->β->Prop}:∀{l₁:List α} {l₂:List β},Paired F l₁ l₂->(∀a b,F a b->G a b)->Paired G l₁ l₂
 |_,_,.nil,_=>.nil
 |_,_,.cons r t,f=>.cons (f _ _ r) (Paired.znp t f)
def vv.stay(x:vv P w H h a o)(k:∀b u,(b=a\/H b=some (.own a))->h.get? b=some u->h'.get? b=some u)(ho:∀b,H b=some (.own a)->H' b=some (.own a))(ht:∀b xs,H b=some (.tup xs)->H' b=some (.tup xs)):vv P w H' h' a o:=by
 induction o with
 |lst xs=>have⟨z,its,n,r,e⟩:=x;exact⟨z,its,n,r,k _ _ (.inl rfl) e⟩
 |tup xs=>have⟨z,its,r,ob,e,c⟩:=x;exact⟨z,its,r,ob,k _ _ (.inl rfl) e,c⟩
 |dK kvs=>have⟨z,y,vs,r,ob,es,ep,e,c⟩:=x;exact⟨z,y,vs,r,ob,es,ep,k _ _ (.inl rfl) e,c⟩
 |dT kvs=>
  have⟨z,y,xs,r,ob,es,ep,e,c⟩:=x;exact⟨z,y,xs,Paired.znp r λp q z=>⟨z.1,ht _ _ z.2.1,z.2.2⟩,ob,es,ep,k _ _ (.inl rfl) e,c⟩
 |set S n=>have⟨ob,es,ep,t,e,c⟩:=x;exact⟨ob,es,ep,t,k _ _ (.inl rfl) e,c⟩
 |ins C dx fs=>
  have⟨d,z,ne,e,mA,⟨od,es,ep,e2,c⟩,r⟩:=x;exact⟨ho _ d,z,ne,k _ _ (.inl rfl) e,mA,⟨od,es,ep,k _ _ (.inr d) e2,c⟩,r⟩
 |own y=>have⟨ob,e⟩:=x;exact⟨ob,k _ _ (.inl rfl) e⟩
 |xd fs=>have⟨mA,⟨od,es,ep,e,c⟩,r⟩:=x;exact⟨mA,⟨od,es,ep,k _ _ (.inl rfl) e,c⟩,r⟩
 |rng lo hi=>have⟨t,u,v,e⟩:=x;exact⟨t,u,v,k _ _ (.inl rfl) e⟩
 |frz ob u ih=>have⟨e,q⟩:=x;exact⟨k _ _ (.inl rfl) e,ih q⟩
 |tbl ps=>
  have e:h.get? a=some { cls:=.none,data:=.fields ps }:=x;show h'.get? a=some { cls:=.none,data:=.fields ps }
  exact k a _ (.inl rfl) e
 |met f y=>
  have e:h.get? a=some (W.methodObj (.ref f) (.ref y)):=x;show h'.get? a=some (W.methodObj (.ref f) (.ref y))
  exact k a _ (.inl rfl) e
 |ext φ=>have⟨p,⟨o,e⟩,st⟩:=x;exact⟨st _ _ p λo q=>k _ _ (.inl rfl) q,⟨o,k _ _ (.inl rfl) e⟩,st⟩
def HOk.lt(x:HOk P w H h)(e:H a=some o):a<h.objs.size:=(x a o e).lt
def HOk.fresh(x:HOk P w H h)(e:h.objs.size<=a):H a=none:=by
 cases q:H a with
 |none=>rfl
 |some u=>exact absurd (q9 (x.lt q) e) (k9 _)
def HOk.kept(x:HOk P w H h)(k:∀b u,h.get? b=some u->h'.get? b=some u):HOk P w H h':=λa o e=>
 (x a o e).stay (λb u _ q=>k b u q) (λ_ q=>q) λ_ _ q=>q
def HOk.laid(x:HOk P w H h)(k:∀b u,h.get? b=some u->h'.get? b=some u)(hp:h.objs.size<=a)(new:vv P w (upd H a o) h' a o):HOk P w (upd H a o) h':=λb u e=>by
 have hn:=x.fresh hp;by_cases hb:b=a
 ·subst hb;rw[zH] at e;cases e;exact new
 ·rw[zV hb] at e;exact(x b u e).stay (λc v _ q=>k c v q) (λc q=>by rw[zV (jN q hn)];exact q) λc xs q=>by rw[zV (jN q hn)];exact q
end
def Rd(H:Hp)(a:AdX)(u:HO):Prop:=H a=some u\/∃o,H a=some (.frz o u)
def Rd.ok{P:Program}{w:World}{H:Hp}{h:Heap}{a:AdX}{u:HO}(r:Rd H a u)(x:HOk P w H h):vv P w H h a u:=by
 rcases r with r|⟨o,r⟩
 ·exact x a u r
 ·have⟨_,q⟩:=x a _ r;exact q
def Mut:Option HO->Prop
 |some (.lst _)=>True
 |some (.dK _)=>True
 |some (.dT _)=>True
 |some (.set _ _)=>True
 |some (.ins _ _ _)=>True
 |some (.ext _)=>True
 |_=>False
section
variable{P:Program}{w:World}{H:Hp}{h h':Heap}{x e:AdX}{o':HO}
def HOk.write(ok:HOk P w H h)(mu:Mut (H x))(he:e=x\/H e=some (.own x))(k:∀b u,b≠e->h.get? b=some u->h'.get? b=some u)(heo:∃u,h'.get? e=some u)(new:vv P w (upd H x o') h' x o'):HOk P w (upd H x o') h':=λb u q=>by
 have nown:∀c y,H c=some (.own y)->c≠x:=λc y r z=>by subst z;rw[r] at mu;exact mu
 have ntup:∀c xs,H c=some (.tup xs)->c≠x:=λc xs r z=>by subst z;rw[r] at mu;exact mu
 by_cases hb:b=x
 ·subst hb;rw[zH] at q;cases q;exact new
 ·rw[zV hb] at q;by_cases hbe:b=e
  ·have q':H b=some (.own x):=by
    rcases he with z|z
    ·exact absurd (hbe.trans z) hb
    ·rw[hbe];exact z
   rw[q] at q';cases q';have⟨v,hv⟩:=heo;exact⟨v,by rw[hbe];exact hv⟩
  ·refine(ok b u q).stay (λc v hc r=>k c v ?_ r) (λc r=>by rw[zV (nown c b r)];exact r) λc xs r=>by rw[zV (ntup c xs r)];exact r
   rcases hc with rfl|hc
   ·exact hbe
   ·rintro rfl;rcases he with z|z
    ·exact nown c b hc z
    ·rw[hc] at z;cases z;exact hb rfl
end
structure Un(fs ex:LAd)(H H':Hp)(h h':Heap):Prop where
 keep:∀b o,h.get? b=some o->H b=none->b∉fs->b∉ex->h'.get? b=some o
 slot:∀b o,h.get? b=some o->H b=none->b∈fs->b∉ex->∃sl,h'.get? b=some { o with slots:=sl }
 free:∀b o,h.get? b=some o->H b=none->b∉ex->H' b=none
 there:∀b o,h.get? b=some o->b∉ex->∃o',h'.get? b=some o'
 tups:∀b xs,H b=some (.tup xs)->H' b=some (.tup xs)
 frzs:∀b o u,H b=some (.frz o u)->H' b=some (.frz o u)
 tbls:∀b ps,H b=some (.tbl ps)->∃more,H' b=some (.tbl (ps++more))
section
variable{fs fs' ex ex':LAd}{H H1 H2:Hp}{h h1 h2 h':Heap}{a x e:AdX}{o:HO}
def Un.any(u:Un fs ex H H1 h h1){b:AdX}{ob:Obj}(q:h.get? b=some ob)(n:H b=none)(hx:b∉ex):∃sl,h1.get? b=some { ob with slots:=sl }:=by
 by_cases hb:b∈fs
 ·exact u.slot b ob q n hb hx
 ·exact⟨ob.slots,u.keep b ob q n hb hx⟩
def Un.kept(k:∀b u,h.get? b=some u->h'.get? b=some u):Un fs ex H H h h':=⟨λb ob q _ _ _=>k b ob q,λb ob q _ _ _=>⟨ob.slots,k b ob q⟩,λ_ _ _ n _=>n,λb ob q _=>⟨ob,k b ob q⟩,λ_ _ q=>q,λ_ _ _ q=>q,λ_ ps q=>⟨#[],by rw[q];simp⟩⟩
def Un.refl:Un fs ex H H h h:=Un.kept λ_ _ q=>q
def Un.laid(k:∀b u,h.get? b=some u->h'.get? b=some u)(hp:h.objs.size<=a)(hn:H a=none):Un fs ex H (upd H a o) h h' where
 keep:=λb u q _ _ _=>k b u q
 slot:=λb u q _ _ _=>⟨u.slots,k b u q⟩
 free:=λb u q n _=>by rw[zV (k6 (q9 (qO q) hp))];exact n
 there:=λb u q _=>⟨u,k b u q⟩
 tups:=λb xs q=>by rw[zV (jN q hn)];exact q
 frzs:=λb u xs q=>by rw[zV (jN q hn)];exact q
 tbls:=λb ps q=>⟨#[],by rw[zV (jN q hn),q];simp⟩
def Un.write(mu:Mut (H x))(he:e=x\/H e=some (.own x))(k:∀b u,b≠e->h.get? b=some u->h'.get? b=some u)(heo:∃u,h'.get? e=some u):Un fs ex H (upd H x o) h h':=by
 have hx:∀b,H b=none->b≠x:=λb n z=>by subst z;rw[n] at mu;exact mu
 have hb:∀b,H b=none->b≠e:=λb n z=>by
  subst z;rcases he with r|r
  ·exact hx b n r
  ·rw[n] at r;cases r
 have hm:∀b u,H b=some u->¬Mut (some u)->b≠x:=λb u q nm z=>by subst z;rw[q] at mu;exact nm mu
 refine⟨λb u q n _ _=>k b u (hb b n) q,λb u q n _ _=>⟨u.slots,k b u (hb b n) q⟩,λb u q n _=>by rw[zV (hx b n)];exact n,λb u q _=>?_,
  λb xs q=>by rw[zV (hm b _ q λz=>z)];exact q,λb u xs q=>by rw[zV (hm b _ q λz=>z)];exact q,λb ps q=>⟨#[],by rw[zV (hm b _ q λz=>z),q];simp⟩⟩
 by_cases hbe:b=e
 ·subst hbe;exact heo
 ·exact⟨u,k b u hbe q⟩
end
def trk(h:Heap)(H:Hp):List Addr:=(List.range h.objs.size).filter λa=>(H a).isSome
def zbV(h:Heap)(H:Hp):Heap:=W.hideAll h (trk h H)
def zgB(h:Heap)(H:Hp):(zbV h H).objs.size=h.objs.size:=W.hideAll_size _ _
def zin{h:Heap}{H:Hp}{b:AdX}{o:Obj}(e:h.get? b=some o)(n:H b=none):(zbV h H).get? b=some o:=W.hideAll_get _ e λhm=>by
  have q:(H b).isSome=true:=(ku.mp hm).2;rw[n] at q;simp at q
def zje{h:Heap}{H:Hp}{b:AdX}{o:Obj}(e:(zbV h H).get? b=some o):h.get? b=some o/\H b=none:=by
 have e':h.get? b=some o:=W.of_hideAll (trk h H) e;refine⟨e',?_⟩;cases q:H b with
 |none=>rfl
 |some x=>
  have hm:b∈trk h H:=ku.mpr ⟨qE.mpr (qO e'),by simp[q]⟩;have z:(zbV h H).get? b=none:=W.hideAll_none (trk h H) hm
  rw[z] at e;cases e
structure Mod(K:FRx)(mg:Str->Option Value)(base:Heap):Prop where
 kin:K.In base
 glob:base.Ns mainGlobals mg
 blt:∃mb,base.Ns builtinsNs mb/\∀x:Str,x≠"__name__"->mb x=bootBuiltins x
 nolimit:base.NoLimit
structure Cx where
 prog:Program
 w:World
 K:W.Frag
 mg:Str->Option Value
 base:Heap
 A:Around
 N:List Str
 s₀:Shared
 H₀:Hp
 env:Env
 outer:List Env
 stack:List Env
 ex:List Addr
 fn:Str->Bool
 calm:Bool
 pn:List (Addr×Obj)
 xe:Value->Shared->Prop
abbrev SEx(X:Cx)(e:Expr)(es:List Expr):Prop:=starEach (e::es) X.env=(false,eval e X.env)::starEach es X.env
abbrev ABx(X:Cx)(e:Expr)(f:Str):Prop:=attributeBase e f X.env (eval e X.env)=eval e X.env
abbrev FNx(X:Cx)(x:Str):Prop:=X.fn x=true\/X.env.scope.names.lookup x=some .local
abbrev FWx(X:Cx)(cpos:Pos)(es:List Expr):Prop:=((backTo cpos (starEach es X.env)).all (λx=>!x.1)&&(backToKw cpos (keywordEach [] X.env)).all (λx=>x.1.isSome)&&decide (es.length+([]:List Keyword).length+(if ([]:List Keyword).isEmpty then 0 else 1)<30))=true
abbrev PLx(X:Cx)(pos:Pos)(es:List Expr):Prop:=(backTo pos (starEach es X.env)).any (·.1)=false
abbrev FSx(X:Cx)(iter:Expr):Prop:=∀x,foldedSetIterable iter X.env x=pure x
def frs(l:List Env):List Addr:=l.filterMap (·.frame)
abbrev Cx.fs(X:Cx):List Addr:=frs X.outer
def Vis(sc:Scope)(x:Str):Prop:=sc.names.lookup x=some .local\/sc.names.lookup x=some .cell\/sc.names.lookup x=some .free
def Loc(sc:Scope)(x:Str):Prop:=sc.names.lookup x=some .local\/sc.names.lookup x=some .cell
def Look(env:Env)(h:Heap)(m:Str->Option Value)(x:Str)(u:Value):Prop:=(env.kindOf x=some .local/\m x=some u)\/((env.kindOf x=some .cell\/env.kindOf x=some .free)/\∃c,env.cells.lookup x=some c/\h.IsCell c (some u))
structure Cx.Ok(X:Cx):Prop where
 mod:Mod X.K X.mg X.base
 kind:X.env.scope.kind=.function
 glob:X.env.globals=mainGlobals
 blt:X.env.builtins=builtinsNs
 above:X.s₀.heap.objs.size<=X.env.locals
 inj:∀x y c,X.env.cells.lookup x=some c->X.env.cells.lookup y=some c->x=y
 has:∀x,(X.env.kindOf x=some .cell\/X.env.kindOf x=some .free)->∃c,X.env.cells.lookup x=some c
 cab:∀x c,X.fn x=true->X.env.cells.lookup x=some c->X.s₀.heap.objs.size<=c
 hd:X.calm=true->X.A.handled=none
 frames:X.A.frames=some X.stack
 stk:X.stack=X.outer\/(X.stack=X.env::X.outer/\X.env.frame=some X.env.locals)
 exf:∀b∈X.ex,b≠X.env.locals/\∀x c,X.env.cells.lookup x=some c->c≠b
 bs:∀b o,X.base.get? b=some o->X.s₀.heap.get? b=some o/\X.H₀ b=none
 bsz:X.base.objs.size<=X.s₀.heap.objs.size
 noex:∀b o,X.base.get? b=some o->b∉X.ex
 exfs:∀b∈X.ex,b∉X.fs
 funs:X.s₀.heap.FunFrames X.base X.outer
 frf:∀b∈X.fs,X.H₀ b=none
structure Inv(X:Cx)(pins:PNx)(σ:List (Option V))(H:Hp)(s:ShX):Prop where
 ok:X.Ok
 os:s.os=X.s₀.os
 bare:AllBare s.gens
 base:Un X.fs X.ex X.H₀ H X.s₀.heap s.heap
 loc:∃m,s.heap.Ns X.env.locals m/\∀(i:Nat)(x:Str)(v:V),X.N[i]?=some x->σ[i]?=some (some v)->Vis X.env.scope x->∃u,RelV v u/\Look X.env s.heap m x u
 cell:∀x c,X.env.cells.lookup x=some c->∃v,s.heap.IsCell c v
 free:H X.env.locals=none
 freeC:∀x c,X.env.cells.lookup x=some c->H c=none
 pin:∀p∈X.pn++pins,s.heap.get? p.1=some p.2/\H p.1=none/\p.1≠X.env.locals/\p.1∉X.fs/\∀v,p.2.data≠ .cell v
 hok:HOk X.prog X.w H s.heap
 len:σ.length=X.N.length
section
variable{X:Cx}{pins:PNx}{σ:List (Option V)}{H H':Hp}{s:ShX}{h':Heap}
def Cx.Ok.nofr(ok:X.Ok){b:AdX}{o:Obj}(e:X.base.get? b=some o):b∉X.fs:=λhb=>by
 have:=(ok.funs.mem hb).1;rw[e] at this;cases this
def Inv.bs(I:Inv X pins σ H s):∀b o,X.base.get? b=some o->s.heap.get? b=some o/\H b=none:=λb o e=>
 ⟨I.base.keep b o (I.ok.bs b o e).1 (I.ok.bs b o e).2 (I.ok.nofr e) (I.ok.noex b o e),I.base.free b o (I.ok.bs b o e).1 (I.ok.bs b o e).2 (I.ok.noex b o e)⟩
def Inv.bk(I:Inv X pins σ H s):∀b o,X.base.get? b=some o->s.heap.get? b=some o:=λb o e=>(I.bs b o e).1
def Inv.mod(I:Inv X pins σ H s):Mod X.K X.mg X.base:=I.ok.mod
def Inv.kIn(I:Inv X pins σ H s):X.K.In s.heap:=I.ok.mod.kin.keeps I.bk
def Inv.nolimit(I:Inv X pins σ H s):s.heap.NoLimit:=I.ok.mod.nolimit.keeps I.bk
def Inv.lt(I:Inv X pins σ H s):X.env.locals<s.heap.objs.size:=let ⟨_,hn,_⟩:=I.loc;hn.lt
def Inv.sz(I:Inv X pins σ H s):X.s₀.heap.objs.size<=s.heap.objs.size:=qw I.ok.above (nu I.lt)
def Inv.nofs(I:Inv X pins σ H s){a:AdX}(h:s.heap.objs.size<=a):a∉X.fs:=λhb=>by
 have⟨_,o,ho,_⟩:=I.ok.funs.mem hb;exact absurd (q9 (qO ho) (qw I.sz h)) (k9 _)
def Inv.cne(I:Inv X pins σ H s):∀x c,X.env.cells.lookup x=some c->c≠X.env.locals:=λx c e z=>by
 have⟨v,o,ho,hd⟩:=I.cell x c e;have⟨m,⟨o',es,ep,ho',hd',_⟩,_⟩:=I.loc;rw[z,ho'] at ho;cases ho;rw[hd'] at hd;cases hd
def Inv.funs(I:Inv X pins σ H s):s.heap.FunFrames X.base X.outer:=by
 have all:∀(l:List Env),(∀b∈frs l,b∈X.fs)->X.s₀.heap.FunFrames X.base l->s.heap.FunFrames X.base l:=by
  intro l;induction l with
  |nil=>intro _ _;trivial
  |cons env r ih=>
   intro hs hl;have⟨hk,⟨L,o,hf,hn,ho,hd⟩,hr⟩:=hl;have hL:L∈X.fs:=hs L (by unfold frs;rw[pw,hf];exact ka);obtain⟨sl,e⟩:=I.base.slot L o ho (I.ok.frf L hL) hL λz=>I.ok.exfs L z hL
   exact⟨hk,⟨L,_,hf,hn,e,hd⟩,ih (λb hb=>hs b (by unfold frs;rw[pw,hf];exact qA _ hb)) hr⟩
 exact all X.outer (λ_ hb=>hb) I.ok.funs
def Inv.stack(I:Inv X pins σ H s):s.heap.FunFrames X.base X.stack:=by
 rcases I.ok.stk with e|⟨e,hf⟩
 ·rw[e];exact I.funs
 ·rw[e];have⟨m,hn,_⟩:=I.loc;refine .cons (by rw[I.ok.kind];decide) hf hn ?_ I.funs;exact Heap.get?_none_of_le (qw I.ok.bsz I.ok.above)
def Inv.zfe(I:Inv X pins σ H s):∀b∈frs X.stack,b∈X.env.locals::X.fs:=λb hb=>by
 rcases I.ok.stk with e|⟨e,hf⟩
 ·rw[e] at hb;exact qA _ hb
 ·rw[e] at hb;unfold frs at hb;rw[pw,hf] at hb;exact hb
def Inv.zfB(I:Inv X pins σ H s):∀b∈frs X.stack,H b=none:=λb hb=>by
 rcases qx.mp (I.zfe b hb) with e|hb
 ·rw[e];exact I.free
 ·have⟨_,o,ho,_⟩:=I.ok.funs.mem hb;exact I.base.free b o ho (I.ok.frf b hb) λz=>I.ok.exfs b z hb
def Inv.step{g':Array GenState}{t':Nat}{d':Drawn}{ch:LAd}(I:Inv X pins σ H s)(hch:∀b∈ch,(b∈X.ex\/X.s₀.heap.objs.size<=b)/\b≠X.env.locals/\(∀x c,X.env.cells.lookup x=some c->c≠b)/\∀p∈X.pn++pins,p.1≠b)(keep:∀b o,b≠X.env.locals->b∉X.fs->b∉ch->s.heap.get? b=some o->H b=none->h'.get? b=some o)(slot:∀b o,b≠X.env.locals->b∈X.fs->b∉ch->s.heap.get? b=some o->H b=none->∃sl,h'.get? b=some { o with slots:=sl })(free:∀b o,b∉ch->s.heap.get? b=some o->H b=none->H' b=none)(there:∀b o,b∉ch->s.heap.get? b=some o->∃o',h'.get? b=some o')(tups:∀b xs,H b=some (.tup xs)->H' b=some (.tup xs))(frzs:∀b o u,H b=some (.frz o u)->H' b=some (.frz o u))(tbls:∀b ps,H b=some (.tbl ps)->∃more,H' b=some (.tbl (ps++more)))(ns:∀m,s.heap.Ns X.env.locals m->h'.Ns X.env.locals m)(hok:HOk X.prog X.w H' h')(hg:AllBare g'):Inv X pins σ H' { s with heap:=h',gens:=g',drawn:=d',toks:=t' }:=by
 have neL:∀b o,X.s₀.heap.get? b=some o->b≠X.env.locals:=λb o e=>k6 (q9 (qO e) I.ok.above)
 have neC:∀b o,X.s₀.heap.get? b=some o->b∉X.ex->b∉ch:=λb o e hx hb=>by
  rcases(hch b hb).1 with z|z
  ·exact hx z
  ·exact absurd (q9 (qO e) z) (k9 _)
 have cellK:∀x c,X.env.cells.lookup x=some c->∀v,s.heap.IsCell c v->h'.IsCell c v:=λx c e v ⟨o,ho,hd⟩=>by
  have nch:c∉ch:=λz=>(hch c z).2.2.1 x c e rfl
  by_cases hc:c∈X.fs
  ·obtain⟨sl,q⟩:=slot c o (I.cne x c e) hc nch ho (I.freeC x c e);exact⟨_,q,hd⟩
  ·exact⟨o,keep c o (I.cne x c e) hc nch ho (I.freeC x c e),hd⟩
 refine⟨I.ok,I.os,hg,⟨λb o e n hb hx=>?_,λb o e n hb hx=>?_,λb o e n hx=>?_,λb o e hx=>?_,λb xs e=>tups b xs (I.base.tups b xs e),λb o xs e=>frzs b o xs (I.base.frzs b o xs e),λb ps e=>?_⟩,?_,λx c e=>?_,?_,λx c e=>?_,λp hp=>?_,hok,I.len⟩
 ·exact keep b o (neL b o e) hb (neC b o e hx) (I.base.keep b o e n hb hx) (I.base.free b o e n hx)
 ·have⟨sl,e1⟩:=I.base.slot b o e n hb hx;obtain⟨sl',e2⟩:=slot b _ (neL b o e) hb (neC b o e hx) e1 (I.base.free b o e n hx);exact⟨sl',e2⟩
 ·have⟨o',e1⟩:=I.base.there b o e hx;exact free b o' (neC b o e hx) e1 (I.base.free b o e n hx)
 ·have⟨o',e1⟩:=I.base.there b o e hx;exact there b o' (neC b o e hx) e1
 ·have⟨m1,e1⟩:=I.base.tbls b ps e;have⟨m2,e2⟩:=tbls b _ e1;exact⟨m1++m2,by rw[e2,Array.append_assoc]⟩
 ·have⟨m,hn,hl⟩:=I.loc;refine⟨m,ns m hn,λi x v e1 e2 e3=>?_⟩;have⟨u,r,l⟩:=hl i x v e1 e2 e3;refine⟨u,r,?_⟩;rcases l with l|⟨k,c,e,z⟩
  ·exact .inl l
  ·exact .inr ⟨k,c,e,cellK x c e _ z⟩
 ·have⟨v,z⟩:=I.cell x c e;exact⟨v,cellK x c e v z⟩
 ·have⟨m,⟨o,_,_,ho,_⟩,_⟩:=I.loc;exact free _ o (λz=>(hch _ z).2.1 rfl) ho I.free
 ·have⟨v,o,ho,hd⟩:=I.cell x c e;exact free c o (λz=>(hch c z).2.2.1 x c e rfl) ho (I.freeC x c e)
 ·have⟨e,n,ne,nf,d⟩:=I.pin p hp;have nch:p.1∉ch:=λz=>(hch p.1 z).2.2.2 p hp rfl
  exact⟨keep p.1 p.2 ne nf nch e n,free p.1 p.2 nch e n,ne,nf,d⟩
def Inv.un{t':Nat}(I:Inv X pins σ H s)(u:Un X.fs [] H H' s.heap h')(hok:HOk X.prog X.w H' h'):Inv X pins σ H' { s with heap:=h',toks:=t' }:=by
 have⟨m,⟨o,es,ep,ho,r⟩,_⟩:=id I.loc;obtain⟨sl,hL⟩:=u.any ho I.free (by simp);exact I.step (g':=s.gens) (d':=s.drawn) (ch:=[]) (λ_ z=>nomatch z) (λb o _ hb _ e n=>u.keep b o e n hb (by simp)) (λb o _ hb _ e n=>u.slot b o e n hb (by simp)) (λb o _ e n=>u.free b o e n (by simp)) (λb o _ e=>u.there b o e (by simp)) u.tups u.frzs u.tbls (λm' hm=>by
  have⟨o',es',ep',ho',r'⟩:=hm;rw[ho] at ho';cases ho';exact⟨_,es',ep',hL,r'⟩) hok I.bare
def Inv.call{g':Array GenState}{t':Nat}{d':Drawn}{ch:LAd}(I:Inv X pins σ H s)(u:Un (frs X.stack) ch H H' s.heap h')(hok:HOk X.prog X.w H' h')(hg:AllBare g')(hch:∀b∈ch,(b∈X.ex\/X.s₀.heap.objs.size<=b)/\b≠X.env.locals/\(∀x c,X.env.cells.lookup x=some c->c≠b)/\∀p∈X.pn++pins,p.1≠b):Inv X pins σ H' { s with heap:=h',gens:=g',drawn:=d',toks:=t' }:=by
 have⟨m,⟨o,es,ep,ho,r⟩,_⟩:=id I.loc;obtain⟨sl,hL⟩:=u.any ho I.free λz=>(hch _ z).2.1 rfl
 exact I.step (ch:=ch) hch (λb o hL hb hc e n=>u.keep b o e n (λz=>(qx.mp (I.zfe b z)).elim hL hb) hc) (λb o _ _ hc e n=>u.any e n hc) (λb o hc e n=>u.free b o e n hc) (λb o hc e=>u.there b o e hc) u.tups u.frzs u.tbls (λm' hm=>by
  have⟨o',es',ep',ho',r'⟩:=hm;rw[ho] at ho';cases ho';exact⟨_,es',ep',hL,r'⟩) hok hg
def Inv.turned{t':Nat}{it:AdX}(I:Inv X pins σ H s)(k:∀b o,b≠it->s.heap.get? b=some o->h'.get? b=some o)(hn:H it=none)(hL:it≠X.env.locals)(h1:it∈X.ex\/X.s₀.heap.objs.size<=it)(h2:∀x c,X.env.cells.lookup x=some c->c≠it)(h3:∀p∈X.pn++pins,p.1≠it):Inv X pins σ H { s with heap:=h',toks:=t' }:=by
 have nit:∀b u,H b=some u->b≠it:=λb u e z=>by rw[z,hn] at e;cases e
 refine I.step (g':=s.gens) (d':=s.drawn) (ch:=[it]) (λb hb=>?_) (λb o _ _ hc e _=>k b o (λz=>hc (by simp[z])) e) (λb o _ _ hc e _=>⟨o.slots,k b o (λz=>hc (by simp[z])) e⟩) (λ_ _ _ _ n=>n)
  (λb o hc e=>⟨o,k b o (λz=>hc (by simp[z])) e⟩) (λ_ _ e=>e) (λ_ _ _ e=>e) (λb ps e=>⟨#[],by rw[e];simp⟩) (λm hm=>?_) (λb u e=>?_) I.bare
 ·have e:b=it:=by simpa using hb
  subst e;exact⟨h1,hL,h2,h3⟩
 ·have⟨o,es,ep,ho,r⟩:=hm;exact⟨o,es,ep,k _ o (gG hL) ho,r⟩
 ·refine(I.hok b u e).stay (λc v hc q=>k c v ?_ q) (λ_ q=>q) λ_ _ q=>q
  rcases hc with z|z
  ·rw[z];exact nit b u e
  ·exact nit c _ z
def Inv.tok(I:Inv X pins σ H s)(t:Nat):Inv X pins σ H { s with toks:=t }:=I.un (h':=s.heap) (t':=t) Un.refl I.hok
def Inv.kept{t':Nat}(I:Inv X pins σ H s)(k:∀b u,s.heap.get? b=some u->h'.get? b=some u):Inv X pins σ H { s with heap:=h',toks:=t' }:=I.un (Un.kept k) (I.hok.kept k)
def Inv.laid{a:AdX}{o:HO}{t':Nat}(I:Inv X pins σ H s)(k:∀b u,s.heap.get? b=some u->h'.get? b=some u)(hp:s.heap.objs.size<=a)(new:vv X.prog X.w (upd H a o) h' a o):Inv X pins σ (upd H a o) { s with heap:=h',toks:=t' }:=I.un (Un.laid k hp (I.hok.fresh hp)) (I.hok.laid k hp new)
def Inv.write{x e:AdX}{o:HO}{t':Nat}(I:Inv X pins σ H s)(mu:Mut (H x))(he:e=x\/H e=some (.own x))(k:∀b u,b≠e->s.heap.get? b=some u->h'.get? b=some u)(heo:∃u,h'.get? e=some u)(new:vv X.prog X.w (upd H x o) h' x o):Inv X pins σ (upd H x o) { s with heap:=h',toks:=t' }:=I.un (Un.write mu he k heo) (I.hok.write mu he k heo new)
def Inv.zfM{pins':PNx}(I:Inv X pins σ H s)(h:∀p∈pins',s.heap.get? p.1=some p.2/\H p.1=none/\p.1≠X.env.locals/\p.1∉X.fs/\∀v,p.2.data≠ .cell v):Inv X pins' σ H s:=⟨I.ok,I.os,I.bare,I.base,I.loc,I.cell,I.free,I.freeC,λp hp=>(qr.mp hp).elim (λz=>I.pin p (List.mem_append_left _ z)) (h p),I.hok,I.len⟩
def zdw{N:LSr}(hN:N.Nodup){i j:Nat}{x:Str}(a:N[i]?=some x)(b:N[j]?=some x):i=j:=by
 obtain⟨h1,e1⟩:=qg.mp a;obtain⟨h2,e2⟩:=qg.mp b;exact(List.getElem_inj hN).mp (e1.trans e2.symm)
def Wk{M:Model}{A:Around}{E:VSx}{i:Nat}{x:Str}{v:V}{u:Value}{Q:Unit->Shared->Prop}(I:Inv X pins σ H s)(hN:X.N.Nodup)(hi:X.N[i]?=some x)(hx:Loc X.env.scope x)(r:RelV v u)(h:∀s',Inv X pins (σ.set i (some v)) H s'->(∃a,Heap.SameBut a s.heap s'.heap/\(a=X.env.locals\/X.env.cells.lookup x=some a))->Q () s')(hf:FNx X x:=by trivial):wpAny M A (storeName X.env x u) Q E s:=by
 have⟨m,hn,hl⟩:=id I.loc;have hcls:(X.env.scope.kind== .class || (X.env.scope.kind== .module&&X.env.locals != X.env.globals))=false:=by rw[I.ok.kind];rfl
 have hiσ:i<σ.length:=by rw[I.len];exact(qg.mp hi).1
 have cne:=I.cne;have tracked:∀{a:AdX} {h':Heap},(∃o,s.heap.get? a=some o/\H a=none)->Heap.SameBut a s.heap h'->HOk X.prog X.w H h':=λ{a h'} ha hs b ob e=>by
  have⟨_,_,hfree⟩:=ha;refine(I.hok b ob e).stay (λc w' hc q=>(hs.2 c ?_).trans q) (λ_ q=>q) λ_ _ q=>q
  rintro rfl;rcases hc with rfl|hc
  ·rw[hfree] at e;cases e
  ·rw[hfree] at hc;cases hc
 rcases hx with hk|hk
 ·refine wpAny_storeName_local hk hn (λh' hn' hs=>?_) hcls;have⟨oL,_,_,hoL,_⟩:=id hn;refine h _ ⟨I.ok,I.os,I.bare,⟨λb o e n hb hx=>?_,λb o e n hb hx=>?_,I.base.free,λb o e hx=>?_,I.base.tups,I.base.frzs,I.base.tbls⟩,⟨_,hn',λj y v' e1 e2 e3=>?_⟩,λy c e=>?_,I.free,I.freeC,λp hp=>?_,tracked ⟨oL,hoL,I.free⟩ hs,by simpa using I.len⟩ ⟨_,hs,.inl rfl⟩
  ·exact(hs.2 b (k6 (q9 (qO e) I.ok.above))).trans (I.base.keep b o e n hb hx)
  ·have⟨sl,e1⟩:=I.base.slot b o e n hb hx;exact⟨sl,(hs.2 b (k6 (q9 (qO e) I.ok.above))).trans e1⟩
  ·have⟨o',e1⟩:=I.base.there b o e hx;exact⟨o',(hs.2 b (k6 (q9 (qO e) I.ok.above))).trans e1⟩
  ·by_cases hj:j=i
   ·subst hj;rw[hi] at e1;cases e1;rw[kG hiσ] at e2;cases e2;exact⟨u,r,.inl ⟨hk,by simp⟩⟩
   ·rw[qH (gG hj)] at e2;have⟨u',r',q⟩:=hl j y v' e1 e2 e3;refine⟨u',r',?_⟩;rcases q with⟨k,e⟩|⟨k,c,e,z⟩
    ·refine .inl ⟨k,?_⟩
     have:y≠x:=λe=>hj (zdw hN e1 (e▸hi))
     simp[this,e]
    ·exact .inr ⟨k,c,e,z.sameBut hs (cne y c e)⟩
  ·have⟨w',z⟩:=I.cell y c e;exact⟨w',z.sameBut hs (cne y c e)⟩
  ·have⟨e,n,ne,nf,d⟩:=I.pin p hp;exact⟨(hs.2 p.1 ne).trans e,n,ne,nf,d⟩
 ·have hfn:X.fn x=true:=by
   rcases hf with z|z
   ·exact z
   ·rw[z] at hk;cases hk
  obtain⟨c,hc⟩:=I.ok.has x (.inl hk);have⟨w',z⟩:=I.cell x c hc;refine wpAny_storeName_cell I.ok.kind hk hc z (λh' hc' hs=>?_);have⟨oc,hoc,hocd⟩:=id z;refine h { s with heap:=h' } ⟨I.ok,I.os,I.bare,⟨λb o e n hb hx=>?_,λb o e n hb hx=>?_,I.base.free,λb o e hx=>?_,I.base.tups,I.base.frzs,I.base.tbls⟩,⟨m,hn.sameBut hs (gG (cne x c hc)),λj y v' e1 e2 e3=>?_⟩,λy c' e=>?_,I.free,I.freeC,λp hp=>?_,tracked ⟨oc,hoc,I.freeC x c hc⟩ hs,by simpa using I.len⟩ ⟨c,hs,.inr hc⟩
  ·exact(hs.2 b (k6 (q9 (qO e) (I.ok.cab x c hfn hc)))).trans (I.base.keep b o e n hb hx)
  ·have⟨sl,e1⟩:=I.base.slot b o e n hb hx;exact⟨sl,(hs.2 b (k6 (q9 (qO e) (I.ok.cab x c hfn hc)))).trans e1⟩
  ·have⟨o',e1⟩:=I.base.there b o e hx;exact⟨o',(hs.2 b (k6 (q9 (qO e) (I.ok.cab x c hfn hc)))).trans e1⟩
  ·by_cases hj:j=i
   ·subst hj;rw[hi] at e1;cases e1;rw[kG hiσ] at e2;cases e2;exact⟨u,r,.inr ⟨.inl hk,c,hc,hc'⟩⟩
   ·rw[qH (gG hj)] at e2;have⟨u',r',q⟩:=hl j y v' e1 e2 e3;refine⟨u',r',?_⟩;rcases q with q|⟨k,c',e,z'⟩
    ·exact .inl q
    ·refine .inr ⟨k,c',e,z'.sameBut hs ?_⟩;rintro rfl;exact hj (zdw hN e1 (I.ok.inj _ _ _ e hc▸hi))
  ·by_cases hcc:c'=c
   ·subst hcc;exact⟨_,hc'⟩
   ·have⟨w2,z2⟩:=I.cell y c' e;exact⟨w2,z2.sameBut hs hcc⟩
  ·have⟨e,n,ne,nf,d⟩:=I.pin p hp;refine⟨(hs.2 p.1 ?_).trans e,n,ne,nf,d⟩;intro q;rw[q,hoc] at e;have q':oc=p.2:=kb e;exact d w' (by rw[<-q'];exact hocd)
def zcX{M:Model}{A:Around}{E:VSx}{i:Nat}{x:Str}{v:V}{u:Value}{Q:Unit->Shared->Prop}(I:Inv X pins σ H s)(hN:X.N.Nodup)(hi:X.N[i]?=some x)(hx:Loc X.env.scope x)(r:RelV v u)(h:∀s',Inv X pins (σ.set i (some v)) H s'->Q () s')(hf:FNx X x:=by trivial):wpAny M A (storeName X.env x u) Q E s:=Wk I hN hi hx r (λs' I' _=>h s' I') hf
end
abbrev XK:=Value->Option Addr->Hp->Prop
abbrev St:=List (Option V)
abbrev VK:=V->Hp->Prop
abbrev TE:=St->Hp->VK->Prop
abbrev TT:=St->Hp->(Bool->Hp->Prop)->Prop
abbrev TA:=St->Hp->(List V->Hp->Prop)->Prop
structure Ends where
 nx:St->Hp->Prop
 rt:VK
 bk:St->Hp->Prop:=λ_ _=>False
 ct:St->Hp->Prop:=λ_ _=>False
abbrev TS:=Ends->St->Hp->Prop
def EP(X:Cx)(pins:PNx)(σ:St)(Q:VK)(u:Value)(s':ShX):Prop:=∃v H',Inv X pins σ H' s'/\RelV v u/\Q v H'
def TP(X:Cx)(pins:PNx)(σ:St)(Q:Bool->Hp->Prop)(b:Bool)(s':ShX):Prop:=∃H',Inv X pins σ H' s'/\Q b H'
def AP(X:Cx)(pins:PNx)(σ:St)(Q:List V->Hp->Prop)(us:LVl)(s':ShX):Prop:=∃vs H',Inv X pins σ H' s'/\Vals vs us/\Q vs H'
def SP(X:Cx)(pins:PNx)(D:Ends)(f:Flow)(s':ShX):Prop:=match f with
 | .next=>∃σ' H',Inv X pins σ' H' s'/\D.nx σ' H'
 | .brk=>∃σ' H',Inv X pins σ' H' s'/\D.bk σ' H'
 | .cont=>∃σ' H',Inv X pins σ' H' s'/\D.ct σ' H'
 | .ret u=>∃v σ' H',Inv X pins σ' H' s'/\RelV v u/\D.rt v H'
def PE(X:Cx)(e:Expr)(t:TE):Prop:=∀(pins:PNx)(s:ShX)(σ:St)(H:Hp)(Q:VK),Inv X pins σ H s->t σ H Q->wpAny (model X.prog X.w) X.A (eval e X.env) (EP X pins σ Q) X.xe s
def PT(X:Cx)(e:Expr)(t:TT):Prop:=∀(pins:PNx)(s:ShX)(σ:St)(H:Hp)(Q:Bool->Hp->Prop),Inv X pins σ H s->t σ H Q->wpAny (model X.prog X.w) X.A (isTrue e X.env (eval e X.env)) (TP X pins σ Q) X.xe s
def PW(X:Cx)(e:Expr)(t:TT):Prop:=∀(whole:Sem Value)(pins:PNx)(s:ShX)(σ:St)(H:Hp)(Q:Bool->Hp->Prop),Inv X pins σ H s->t σ H Q->wpAny (model X.prog X.w) X.A (isTrue e X.env whole) (TP X pins σ Q) X.xe s
def PW.pt{X:Cx}{e:Expr}{t:TT}(h:PW X e t):PT X e t:=h _
def PA(X:Cx)(es:List Expr)(t:TA):Prop:=∀(pos:Pos)(pins:PNx)(s:ShX)(σ:St)(H:Hp)(Q:List V->Hp->Prop),Inv X pins σ H s->t σ H Q->wpAny (model X.prog X.w) X.A (spliced (backTo pos (starEach es X.env))) (AP X pins σ Q) X.xe s
def PS(X:Cx)(st:Stmt)(t:TS):Prop:=∀(pins:PNx)(s:ShX)(σ:St)(H:Hp)(D:Ends),Inv X pins σ H s->t D σ H->wpAny (model X.prog X.w) X.A (exec st X.env) (SP X pins D) X.xe s
def PSs(X:Cx)(st:List Stmt)(t:TS):Prop:=∀(pins:PNx)(s:ShX)(σ:St)(H:Hp)(D:Ends),Inv X pins σ H s->t D σ H->wpAny (model X.prog X.w) X.A (execs st X.env) (SP X pins D) X.xe s
def thn{α:Type}{t:Sem α}{Q Q':α->Shared->Prop}{M:Model}{A:Around}{E:VSx}{s:ShX}(h:wpAny M A t Q E s)(hQ:∀a s,Q a s->Q' a s):wpAny M A t Q' E s:=gu h hQ λ_ _ x=>x
section
variable{X:Cx}
def bin{a b:Expr}{ta tb:TE}(ha:PE X a ta)(hb:PE X b tb){pins:PNx}{s:ShX}{σ:St}{H:Hp}{R:V->V->Hp->Prop}(I:Inv X pins σ H s)(h:ta σ H λx H1=>tb σ H1 λy H2=>R x y H2){α:Type}{Q:α->Shared->Prop}{f:Value->Value->Sem α}(hf:∀v u s2 x y H2,Inv X pins σ H2 s2->RelV x v->RelV y u->R x y H2->wpAny (model X.prog X.w) X.A (f v u) Q X.xe s2):wpAny (model X.prog X.w) X.A (eval a X.env) (λv s₁=>wpAny (model X.prog X.w) X.A (eval b X.env) (λu s₂=>wpAny (model X.prog X.w) X.A (f v u) Q X.xe s₂) X.xe s₁) X.xe s:=by
 refine thn (ha pins s σ H _ I h) λv s1 ⟨x,H1,I1,r1,q1⟩=>?_
 refine thn (hb pins s1 σ H1 _ I1 q1) λu s2 ⟨y,H2,I2,r2,q2⟩=>?_
 exact hf v u s2 x y H2 I2 r1 r2 q2
def znz(i:Nat):TE:=λσ H Q=>∃v,σ[i]?=some (some v)/\Q v H
def tC(v:V):TE:=λ_ H Q=>Q v H
def yv{i:Nat}{x:Str}{pos:Pos}(hN:X.N[i]?=some x)(hv:Vis X.env.scope x)(hd:NDx x:=by decide)(hcd:NCx x:=by decide):PE X (.Name x pos) (znz i):=by
 intro pins s σ H Q I h;obtain⟨v,e,h⟩:=h;have⟨m,hn,hl⟩:=I.loc;have⟨u,r,l⟩:=hl i x v hN e hv;have fin:EP X pins σ Q u s:=⟨v,H,I,r,h⟩;rcases l with⟨hk,hm⟩|⟨hk,c,hc,hcell⟩
 ·exact wpAny_Name (wpAny_loadName_local I.ok.kind hk hn hm fin) hd
 ·rcases hk with hk|hk
  ·exact wpAny_Name (wpAny_loadName_cell I.ok.kind hk hc hcell fin) hd
  ·exact wpAny_Name (wpAny_loadName_free I.ok.kind hk hc hcell fin hcd) hd
def zmI{i j pos}:PE X (.Constant (.int i) j pos) (tC (.int i)):=λ_ _ _ H _ I h=>wpAny_Constant_int ⟨.int i,H,I.tok _,⟨_,rfl⟩,h⟩
def zm3{b j pos}:PE X (.Constant (.bool b) j pos) (tC (.bl b)):=λ_ _ _ H _ I h=>Constant_bool ⟨.bl b,H,I,rfl,h⟩
def zi5{j pos}:PE X (.Constant .none j pos) (tC .non):=λ_ _ _ H _ I h=>Constant_none ⟨.non,H,I,rfl,h⟩
def Gl(X:Cx)(x:Str):Prop:=X.env.kindOf x=some .globalImplicit
def zbX{E:VSx}{pins:PNx}{s:ShX}{σ:St}{H:Hp}{x:Str}{u:Value}{pos:Pos}{Q:VSx}(I:Inv X pins σ H s)(hg:Gl X x)(hm:X.mg x=some u)(h:Q u s)(hd:NDx x:=by decide):wpAny (model X.prog X.w) X.A (eval (.Name x pos) X.env) Q E s:=Calls.Name_function_global I.ok.kind hg (Calls.loadGlobal_global (by rw[I.ok.glob];exact I.mod.glob.keeps I.bk) hm h) hd
def UT{E:VSx}{pins:PNx}{s:ShX}{σ:St}{H:Hp}{x:Str}{u:Value}{pos:Pos}{Q:VSx}(I:Inv X pins σ H s)(hg:Gl X x)(hm:X.mg x=none)(hv:bootBuiltins x=some u)(h:Q u s)(hn:x≠"__name__":=by decide)(hd:NDx x:=by decide):wpAny (model X.prog X.w) X.A (eval (.Name x pos) X.env) Q E s:=by
 have⟨mb,h1,h2⟩:=I.mod.blt;exact Calls.Name_function_global I.ok.kind hg (Calls.loadGlobal_builtin (by rw[I.ok.glob];exact I.mod.glob.keeps I.bk) hm (by rw[I.ok.blt];exact h1.keeps I.bk) ((h2 x hn).trans hv) h) hd
def zkN{x:Str}{v:V}{u:Value}{pos:Pos}(hg:Gl X x)(hm:X.mg x=some u)(r:RelV v u)(hd:NDx x:=by decide):PE X (.Name x pos) (tC v):=λ_ _ _ H _ I h=>zbX I hg hm ⟨v,H,I,r,h⟩ hd
def zkt{x:Str}{v:V}{u:Value}{pos:Pos}(hg:Gl X x)(hm:X.mg x=none)(hv:bootBuiltins x=some u)(r:RelV v u)(hn:x≠"__name__":=by decide)(hd:NDx x:=by decide):PE X (.Name x pos) (tC v):=λ_ _ _ H _ I h=>UT I hg hm hv ⟨v,H,I,r,h⟩ hn hd
variable{a b:Expr}{ta tb:TE}{pos:Pos}
def PC(X:Cx)(op:CmpOp)(a b:Expr)(t:TE):Prop:=∀(pins:PNx)(s:ShX)(σ:St)(H:Hp)(Q:VK),Inv X pins σ H s->t σ H Q->
  wpAny (model X.prog X.w) X.A (eval a X.env) (λv s₁=>wpAny (model X.prog X.w) X.A (eval b X.env) (λu s₂=>wpAny (model X.prog X.w) X.A (compareOp op v u) (EP X pins σ Q) X.xe s₂) X.xe s₁) X.xe s
def zh6(b:Expr){op:CmpOp}(h:op≠ .In)(h2:op≠ .NotIn):behindInMarks op b=false:=by
 have e1:(op==CmpOp.In)=false:=by cases op<;>first |rfl|exact absurd rfl h
 have e2:(op==CmpOp.NotIn)=false:=by cases op<;>first |rfl|exact absurd rfl h2
 cases b<;>simp[behindInMarks,e1,e2]
def tB(t:TE):TT:=λσ H Q=>t σ H λx H1=>∃c,x=.bl c/\Q c H1
def znX{op:CmpOp}{t:TE}(h:PC X op a b t)(h1:behindInMarks op b=false:=by first |exact zh6 _ (by decide) (by decide)|rfl):PT X (.Compare a [op] [b] pos) (tB t):=by
 intro pins s σ H Q I hw;refine wpAny_isTrue_Compare1 (thn (h pins s σ H _ I hw) λv s1 h1=>thn h1 λu s2 h2=>thn h2 λc s3 ⟨x,H1,I1,r1,q1⟩=>?_) h1;obtain⟨d,rfl,q⟩:=q1;cases r1;exact mV ⟨H1,I1,q⟩
def zii{e:Expr}{t:TE}(h:PE X e t)(he:∀whole,isTrue e X.env whole=(do let v <-whole;standAt e.pos;holding [v] (truthy v)):=by intro _;rfl):PT X e (tB t):=by
 intro pins s σ H Q I hw;refine isTrue_plain (thn (h pins s σ H _ I hw) λv s1 ⟨x,H1,I1,r1,q1⟩=>?_) (he _);obtain⟨d,rfl,q⟩:=q1;cases r1;exact mV ⟨H1,I1,q⟩
variable{tA tB':TT}{rest:List Expr}
def znJ(t u:TT):TT:=λσ H Q=>t σ H λc H1=>if c=true then u σ H1 Q else Q false H1
def tOr(t u:TT):TT:=λσ H Q=>t σ H λc H1=>if c=true then Q true H1 else u σ H1 Q
def znO(t:TT):TT:=λσ H Q=>t σ H λc H1=>Q (!c) H1
def pw_and1(ha:PT X a tA):PW X (.BoolOp .And [a] pos) tA:=by
 intro wh pins s σ H Q I h;refine isTrue_and (thn (ha pins s σ H Q I h) λc s1 e=>?_);cases c with
 |true=>exact isTrue_and_nil e
 |false=>exact e
def pw_or1(ha:PT X a tA):PW X (.BoolOp .Or [a] pos) tA:=by
 intro wh pins s σ H Q I h;refine isTrue_or (thn (ha pins s σ H Q I h) λc s1 e=>?_);cases c with
 |false=>exact isTrue_or_nil e
 |true=>exact e
def pw_and(ha:PT X a tA)(hb:PW X (.BoolOp .And (b::rest) pos) tB'):PW X (.BoolOp .And (a::b::rest) pos) (znJ tA tB'):=by
 intro wh pins s σ H Q I h;refine isTrue_and (thn (ha pins s σ H _ I h) λc s1 ⟨H1,I1,q1⟩=>?_);cases c with
 |true=>exact hb wh pins s1 σ H1 Q I1 q1
 |false=>exact⟨H1,I1,q1⟩
def pw_or(ha:PT X a tA)(hb:PW X (.BoolOp .Or (b::rest) pos) tB'):PW X (.BoolOp .Or (a::b::rest) pos) (tOr tA tB'):=by
 intro wh pins s σ H Q I h;refine isTrue_or (thn (ha pins s σ H _ I h) λc s1 ⟨H1,I1,q1⟩=>?_);cases c with
 |true=>exact⟨H1,I1,q1⟩
 |false=>exact hb wh pins s1 σ H1 Q I1 q1
def zhw(ha:PT X a tA):PT X (.UnaryOp .Not a pos) (znO tA):=by
 intro pins s σ H Q I h;exact isTrue_not (ha pins s σ H (λc H1=>Q (!c) H1) I h)
def zm0(ta tb:TE):TE:=λσ H Q=>ta σ H λx H1=>∃c,x=.bl c/\if c=true then tb σ H1 Q else Q (.bl false) H1
def zmR(ta:TE):TE:=λσ H Q=>ta σ H λx H1=>∃c,x=.bl c/\Q (.bl (!c)) H1
def zl0{op}{t:TE}(h:PE X a t):PE X (.BoolOp op [a] pos) t:=λpins s σ H Q I hw=>BoolOp_one (h pins s σ H Q I hw)
def zl5(ha:PE X a ta)(hb:PE X (.BoolOp .And (b::rest) pos) tb):PE X (.BoolOp .And (a::b::rest) pos) (zm0 ta tb):=by
 intro pins s σ H Q I h;refine BoolOp_and (thn (ha pins s σ H _ I h) λv s1 ⟨x,H1,I1,r1,q1⟩=>?_);obtain⟨c,rfl,q1⟩:=q1;cases r1;refine mV ?_;cases c with
 |true=>exact hb pins s1 σ H1 Q I1 q1
 |false=>exact⟨.bl false,H1,I1,rfl,q1⟩
def zlg(ha:PE X a ta):PE X (.UnaryOp .Not a pos) (zmR ta):=by
 intro pins s σ H Q I h;refine UnaryOp_ (thn (ha pins s σ H _ I h) λv s1 ⟨x,H1,I1,r1,q1⟩=>?_);obtain⟨c,rfl,q1⟩:=q1;cases r1;exact not_of (mV ⟨.bl (!c),H1,I1,rfl,q1⟩)
def tIf(t:TT)(ta tb:TE):TE:=λσ H Q=>t σ H λc H1=>if c=true then ta σ H1 Q else tb σ H1 Q
def zhk{c:Expr}(hc:PT X c tA)(ha:PE X a ta)(hb:PE X b tb):PE X (.IfExp c a b pos) (tIf tA ta tb):=by
 intro pins s σ H Q I h;refine wpAny_IfExp (thn (hc pins s σ H _ I h) λd s1 ⟨H1,I1,q1⟩=>?_);cases d with
 |true=>exact ha pins s1 σ H1 Q I1 q1
 |false=>exact hb pins s1 σ H1 Q I1 q1
end
def SqL(K:FRx)(H:Hp)(a:AdX)(xs:List V):Prop:=Rd H a (.lst xs)\/
  ∃(o:Obj)(its:Array Value)(n:Nat),K.lookup a=some o/\o.cls=.type "list"/\o.dict=none/\o.data=.seq its n/\its.size<=sizeLine/\Vals xs its.toList
def SqT(K:FRx)(H:Hp)(a:AdX)(xs:List V):Prop:=Rd H a (.tup xs)\/
  ∃(o:Obj)(its:Array Value)(n:Nat),K.lookup a=some o/\o.cls=.type "tuple"/\o.data=.seq its n/\its.size<=sizeLine/\Vals xs its.toList
def znQ:Value->Option V
 | .none=>some .non
 | .bool b=>some (.bl b)
 | .int i _=>some (.int i)
 | .str x _=>some (.str x)
 | .bytes b _=>some (.byt b)
 | .float b _=>some (.flt b)
 | .ref a=>some (.ref a)
 | .type n=>some (.ty n)
 |_=>none
def RelV.abs{x:V}{u:Value}(r:RelV x u):znQ u=some x:=by
 cases x with
 |non=>cases r;rfl
 |bl _=>cases r;rfl
 |int _=>obtain⟨t,rfl⟩:=r;rfl
 |str _=>obtain⟨t,rfl⟩:=r;rfl
 |byt _=>obtain⟨t,rfl⟩:=r;rfl
 |flt _=>obtain⟨t,rfl⟩:=r;rfl
 |ref _=>cases r;rfl
 |ty _=>cases r;rfl
def RelV.inj{x y:V}{u:Value}(r:RelV x u)(q:RelV y u):x=y:=kb (r.abs.symm.trans q.abs)
theorem Vals.inj:∀{xs ys:List V} {us:LVl},Vals xs us->Vals ys us->xs=ys
 |_,_,_,.nil,.nil=>rfl
 |_,_,_,.cons r t,.cons r' t'=>by rw[r.inj r',Vals.inj t t']
section
variable{X:Cx}{pins:PNx}{σ:St}{H:Hp}{s:ShX}{a:AdX}{xs ys:List V}
def SqL.of{K:FRx}(h:H a=some (.lst xs)):SqL K H a xs:=.inl (.inl h)
def SqT.of{K:FRx}(h:H a=some (.tup xs)):SqT K H a xs:=.inl (.inl h)
def Inv.list(I:Inv X pins σ H s)(h:SqL X.K H a xs):∃its:List Value,Vals xs its/\PlainL s.heap a its.toArray/\xs.length<=sizeLine:=by
 rcases h with h|⟨o,its,n,hk,hc,hd,hs,hz,r⟩
 ·have⟨z,its,n,r,e⟩:=h.ok I.hok;exact⟨its,r,⟨_,n,e,rfl,rfl,rfl⟩,z⟩
 ·refine⟨its.toList,r,⟨o,n,I.kIn a o hk,hc,hd,by simpa using hs⟩,?_⟩;have e:=r.length;simp only [px] at e;omega
def Inv.tuple(I:Inv X pins σ H s)(h:SqT X.K H a xs):∃its:List Value,Vals xs its/\IsTup s.heap a its.toArray/\xs.length<=sizeLine:=by
 rcases h with h|⟨o,its,n,hk,hc,hs,hz,r⟩
 ·have⟨z,its,r,p⟩:=h.ok I.hok;exact⟨its,r,p,z⟩
 ·refine⟨its.toList,r,⟨o,I.kIn a o hk,hc,n,by simpa using hs⟩,?_⟩;have e:=r.length;simp only [px] at e;omega
def Inv.zdD(I:Inv X pins σ H s)(h:SqL X.K H a xs)(h':SqL X.K H a ys):xs=ys:=by
 have⟨its,r,⟨o,n,e,_,_,d⟩,_⟩:=I.list h;have⟨its',r',⟨o',n',e',_,_,d'⟩,_⟩:=I.list h';rw[e] at e';cases e';rw[d] at d';injection d' with d1 _
 have:its=its':=by simpa using qR Array.toList d1
 subst this;exact r.inj r'
def Inv.zbc(I:Inv X pins σ H s)(h:SqT X.K H a xs)(h':SqT X.K H a ys):xs=ys:=by
 have⟨its,r,⟨o,e,_,n,d⟩,_⟩:=I.tuple h;have⟨its',r',⟨o',e',_,n',d'⟩,_⟩:=I.tuple h';rw[e] at e';cases e';rw[d] at d';injection d' with d1 _
 have:its=its':=by simpa using qR Array.toList d1
 subst this;exact r.inj r'
end
abbrev Cx.wish(X:Cx)(E:VSx):Cx:={ X with xe:=E }
abbrev Cx.nox(X:Cx):Cx:=X.wish λ_ _=>False
def Cx.Ok.wish{X:Cx}(ok:X.Ok)(E:VSx):(X.wish E).Ok:=⟨ok.mod,ok.kind,ok.glob,ok.blt,ok.above,ok.inj,ok.has,ok.cab,ok.hd,ok.frames,ok.stk,ok.exf,ok.bs,ok.bsz,ok.noex,ok.exfs,ok.funs,ok.frf⟩
def Cx.Ok.unwish{X:Cx}{E:VSx}(ok:(X.wish E).Ok):X.Ok:=⟨ok.mod,ok.kind,ok.glob,ok.blt,ok.above,ok.inj,ok.has,ok.cab,ok.hd,ok.frames,ok.stk,ok.exf,ok.bs,ok.bsz,ok.noex,ok.exfs,ok.funs,ok.frf⟩
section
variable{X:Cx}{pins:PNx}{σ:St}{H:Hp}{s:ShX}{E:VSx}
def Inv.wish(I:Inv X pins σ H s)(E:VSx):Inv (X.wish E) pins σ H s:=⟨I.ok.wish E,I.os,I.bare,I.base,I.loc,I.cell,I.free,I.freeC,I.pin,I.hok,I.len⟩
def Inv.unwish(I:Inv (X.wish E) pins σ H s):Inv X pins σ H s:=⟨I.ok.unwish,I.os,I.bare,I.base,I.loc,I.cell,I.free,I.freeC,I.pin,I.hok,I.len⟩
def SP.unwish{D:Ends}{f:Flow}{s':ShX}(h:SP (X.wish E) pins D f s'):SP X pins D f s':=by
 cases f with
 |next=>have⟨σ',H',I,q⟩:=h;exact⟨σ',H',I.unwish,q⟩
 |brk=>have⟨σ',H',I,q⟩:=h;exact⟨σ',H',I.unwish,q⟩
 |cont=>have⟨σ',H',I,q⟩:=h;exact⟨σ',H',I.unwish,q⟩
 |ret u=>have⟨v,σ',H',I,r,q⟩:=h;exact⟨v,σ',H',I.unwish,r,q⟩
def PSs.nox{st:List Stmt}{t:TS}(h:PSs X.nox st t):PSs X st t:=λpins s σ H D I hw=>
 gu (h pins s σ H D (I.wish _) hw) (λ_ _ q=>q.unwish) λ_ _ z=>False.elim z
end
section
variable{X:Cx}{st:Stmt}{rest:List Stmt}{t u:TS}{e:Expr}{te:TE}{pos:Pos}
def zlf:TS:=λD σ H=>D.nx σ H
def znY(t u:TS):TS:=λD σ H=>t { D with nx:=u D } σ H
def zcj:PSs X [] zlf:=λ_ _ σ H _ I h=>pz ⟨σ,H,I,h⟩
def v9(h1:PS X st t)(h2:PSs X rest u):PSs X (st::rest) (znY t u):=by
 intro pins s σ H D I h;refine wpAny_execs_cons (thn (h1 pins s σ H { D with nx:=u D } I h) λf s1 q=>?_);cases f with
 |next=>
  obtain⟨σ',H',I',q⟩:=q;exact h2 pins s1 σ' H' D I' q
 |ret v=>exact q
 |brk=>exact q
 |cont=>exact q
def zb5(h1:PS X st t):PSs X [st] t:=by
 intro pins s σ H D I h;refine wpAny_execs_cons (thn (h1 pins s σ H D I h) λf s1 q=>?_);cases f with
 |next=>exact pz q
 |ret v=>exact q
 |brk=>exact q
 |cont=>exact q
def zji:PS X (.Pass pos) zlf:=λ_ _ σ H _ I h=>wpAny_Pass ⟨σ,H,I,h⟩
def Inv.quiet{pins:PNx}{σ:St}{H:Hp}{s:ShX}(I:Inv X pins σ H s):interactive X.env=false:=by simp[interactive,I.ok.kind]
def zmZ(te:TE):TS:=λD σ H=>te σ H λ_ H1=>D.nx σ H1
def uO(he:PE X e te)(hs:swapsWith e none pos.line X.env=pure false:=by rfl):PS X (.Expr e pos) (zmZ te):=by
 intro pins s σ H D I h;exact wpAny_Expr_any (thn (he pins s σ H _ I h) λv s1 ⟨x,H1,I1,r1,q1⟩=>⟨σ,H1,I1,q1⟩) I.quiet hs
def znC(te:TE):TS:=λD σ H=>te σ H D.rt
def Vc(he:PE X e te):PS X (.Return (some e) pos) (znC te):=by
 intro pins s σ H D I h;exact wpAny_Return_some (thn (he pins s σ H _ I h) λv s1 ⟨x,H1,I1,r1,q1⟩=>⟨x,σ,H1,I1,r1,q1⟩)
def znS(c:TT)(t u:TS):TS:=λD σ H=>c σ H λb H1=>if b=true then t D σ H1 else u D σ H1
def zhS{c:Expr}{a b:List Stmt}{tc:TT}(hc:PT X c tc)(ha:PSs X a t)(hb:PSs X b u):PS X (.If c a b pos) (znS tc t u):=by
 intro pins s σ H D I h;refine wpAny_If (thn (hc pins s σ H _ I h) λd s1 ⟨H1,I1,q1⟩=>?_);cases d with
 |true=>exact ha pins s1 σ H1 D I1 q1
 |false=>exact hb pins s1 σ H1 D I1 q1
def zlv:TS:=λ_ _ _=>False
def ziz:PS X st zlv:=λ_ _ _ _ _ _ h=>h.elim
end
abbrev TG:=V->St->Hp->(St->Hp->Prop)->Prop
abbrev TGs:=List V->St->Hp->(St->Hp->Prop)->Prop
def PG(X:Cx)(target:Expr)(t:TG):Prop:=∀(pins:PNx)(s:ShX)(σ:St)(H:Hp)(v:V)(u:Value)(Q:St->Hp->Prop),Inv X pins σ H s->RelV v u->t v σ H Q->
  wpAny (model X.prog X.w) X.A (assign target X.env u) (λ_ s'=>∃σ' H',Inv X pins σ' H' s'/\Q σ' H') X.xe s
def PGs(X:Cx)(ts:List Expr)(t:TGs):Prop:=∀(pins:PNx)(s:ShX)(σ:St)(H:Hp)(vs:List V)(us:LVl)(Q:St->Hp->Prop),Inv X pins σ H s->Vals vs us->t vs σ H Q->
  wpAny (model X.prog X.w) X.A (assignInOrder ((assignEach ts X.env).map (·.2)) us) (λ_ s'=>∃σ' H',Inv X pins σ' H' s'/\Q σ' H') X.xe s
abbrev zmC:=V->V->V->Hp->(Hp->Prop)->Prop
def zm6(X:Cx)(t:zmC):Prop:=∀(pins:PNx)(s:ShX)(σ:St)(H:Hp)(o i v:V)(ov iv u:Value)(Q:Hp->Prop),Inv X pins σ H s->RelV o ov->RelV i iv->RelV v u->t o i v H Q->
  wpAny (model X.prog X.w) X.A (setItem ov iv u) (λ_ s'=>∃H',Inv X pins σ H' s'/\Q H') X.xe s
section
variable{X:Cx}{pos:Pos}
def zk3(i:Nat):TG:=λv σ H Q=>Q (σ.set i (some v)) H
def zjF{i:Nat}{x:Str}(hN:X.N.Nodup)(hi:X.N[i]?=some x)(hx:Loc X.env.scope x)(hf:FNx X x:=by trivial):PG X (.Name x pos) (zk3 i):=by
 intro pins s σ H v u Q I r h;exact p5 (zcX I hN hi hx r (λs' I'=>⟨_,H,I',h⟩) hf)
def znU:TGs:=λvs σ H Q=>vs=[]/\Q σ H
def znj(t:TG)(u:TGs):TGs:=λvs σ H Q=>∃v r,vs=v::r/\t v σ H λσ' H'=>u r σ' H' Q
def zks:PGs X [] znU:=by
 intro pins s σ H vs us Q I r h;obtain⟨e,h⟩:=h;subst e;cases r;exact assignInOrder_nil ⟨σ,H,I,h⟩
def zcG{e:Expr}{es:List Expr}{t:TG}{u:TGs}(h1:PG X e t)(h2:PGs X es u)(hs:(assignEach (e::es) X.env).map (·.2)=assign e X.env::(assignEach es X.env).map (·.2):=by rfl):PGs X (e::es) (znj t u):=by
 intro pins s σ H vs us Q I r h;obtain⟨v,vr,e1,h⟩:=h;subst e1;cases r with
 |cons r rr=>
  rw[hs];refine assignInOrder_cons (thn (h1 pins s σ H _ _ _ I r h) λ_ s1 ⟨σ1,H1,I1,q1⟩=>?_);exact h2 pins s1 σ1 H1 _ _ Q I1 rr q1
def znN(K:FRx)(n:Nat)(t:TGs):TG:=λv σ H Q=>∃a xs,v=.ref a/\SqT K H a xs/\xs.length=n/\t xs σ H Q
def zmj{es:List Expr}{k:Nat}{t:TGs}{n:Nat}(hc:X.calm=true)(h:PGs X es t)(hn:(assignEach es X.env).length=n:=by rfl)(hst:(assignEach es X.env).findIdx? (·.1)=none:=by rfl):PG X (.Tuple es k pos) (znN X.K n t):=by
 intro pins s σ H v u Q I r hw;obtain⟨a,xs,e1,hq,hl,hw⟩:=hw;subst e1;cases r;have⟨its,rv,ht,hz⟩:=I.tuple hq;refine assign_Tuple_tuple (I.ok.hd hc) ht (by simp[hn,<-hl,rv.length]) hst λh' hx=>?_
 have I1:Inv X pins σ H { s with heap:=h' }:=I.kept (t':=s.toks) λb o e=>hx b o (k6 (qO e)) e
 exact h pins _ σ H xs _ Q I1 (by simpa using rv) hw
def znR(to ti:TE)(t:zmC):TG:=λv σ H Q=>to σ H λo H1=>ti σ H1 λi H2=>t o i v H2 λH3=>Q σ H3
def zhq{o i:Expr}{to ti:TE}{t:zmC}(ho:PE X o to)(hi:PE X i ti)(hs:zm6 X t)(ha:∀v,assign (.Subscript o i pos) X.env v=(do
   let ov <-holding [v] (eval o X.env)
   let iv <-holding [v,ov] (eval i X.env)
   standAt pos
   holding [v,ov,iv] (setItem ov iv v)
   release [v,ov,iv] []):=by intro _;rfl):PG X (.Subscript o i pos) (znR to ti t):=by
 intro pins s σ H v u Q I r h;rw[ha];refine qt (wpAny_holding (thn (ho pins s σ H _ I h) λov s1 ⟨x,H1,I1,r1,q1⟩=>?_));refine qt (wpAny_holding (thn (hi pins s1 σ H1 _ I1 q1) λiv s2 ⟨y,H2,I2,r2,q2⟩=>?_));refine qt (nY (qt (wpAny_holding (thn (hs pins s2 σ H2 x y v ov iv u _ I2 r1 r2 r q2) λ_ s3 ⟨H3,I3,q3⟩=>?_))));exact wpAny_release ⟨σ,H3,I3,q3⟩
def znx(te:TE)(g:TG):TS:=λD σ H=>te σ H λx H1=>g x σ H1 D.nx
def zhy{tg e:Expr}{te:TE}{g:TG}(he:PE X e te)(hg:PG X tg g)(hs:swapsWithSole [tg] e pos.line X.env=pure false:=by rfl)(hw:swappedStores [tg] e X.env=pure none:=by rfl)(h1:(assignEach [tg] X.env).map (·.2)=[assign tg X.env]:=by rfl):PS X (.Assign [tg] e pos) (znx te g):=by
 intro pins s σ H D I h;refine wpAny_Assign_stores (thn (he pins s σ H _ I h) λv s1 ⟨x,H1,I1,r1,q1⟩=>?_) hs hw;rw[h1];exact thn (hg pins s1 σ H1 x v _ I1 r1 q1) λ_ s2 q=>q
def wW{i:Nat}{x:Str}{e:Expr}{te:TE}{pos':Pos}(hN:X.N.Nodup)(hi:X.N[i]?=some x)(hx:Loc X.env.scope x)(he:PE X e te)(hs:swapsWith e (some (.Name x pos')) pos.line X.env=pure false:=by rfl)(hf:FNx X x:=by trivial):PS X (.Assign [.Name x pos'] e pos) (znx te (zk3 i)):=by
 intro pins s σ H D I h;refine wpAny_Assign_Name (thn (he pins s σ H _ I h) λv s1 ⟨y,H1,I1,r1,q1⟩=>?_) hs;exact zcX I1 hN hi hx r1 (λs2 I2=>⟨_,H1,I2,q1⟩) hf
end
section
variable{X:Cx}{pos:Pos}
def zme(c:TT)(tb:TS):TS:=λD σ H=>∃W:Nat->St->Hp->Prop,(∃m,W m σ H)/\∀m σ H,W m σ H->
 c σ H λb H1=>if b=true then ∃N:St->Hp->Prop,(∀σ' H',N σ' H'->∃m',m'<m/\W m' σ' H')/\tb { D with nx:=N,ct:=N,bk:=D.nx } σ H1 else D.nx σ H1
def zcZ{c:Expr}{body:List Stmt}{tc:TT}{tb:TS}(hp:PassesOwn (model X.prog X.w) X.A X.env X.xe)(hc:PT X c tc)(hb:PSs X body tb):PS X (.While c body [] pos) (zme tc tb):=by
 intro pins s σ H D I h;have⟨W,⟨m0,w0⟩,turn⟩:=h;refine wpAny_While (codeAny_whileLoop (λn s'=>∃σ' H',Inv X pins σ' H' s'/\W n σ' H') ?_ m0 ⟨σ,H,I,w0⟩);rintro n s1 ⟨σ1,H1,I1,w1⟩;refine mh hp (thn (hc pins s1 σ1 H1 _ I1 (turn n σ1 H1 w1)) λb s2 ⟨H2,I2,q2⟩=>?_);cases b with
 |true=>
  obtain⟨N,hN,q2⟩:=q2;rw[qj rfl];refine mh hp (thn (hb pins s2 σ1 H2 _ I2 q2) λf s3 q3=>?_);cases f with
  |next=>
   have⟨σ3,H3,I3,n3⟩:=q3;have⟨m',hm,w3⟩:=hN σ3 H3 n3;exact⟨m',hm,σ3,H3,I3,w3⟩
  |cont=>
   have⟨σ3,H3,I3,n3⟩:=q3;have⟨m',hm,w3⟩:=hN σ3 H3 n3;exact⟨m',hm,σ3,H3,I3,w3⟩
  |brk=>exact q3
  |ret v=>exact q3
 |false=>
  rw[qo qL];exact pz ⟨σ1,H2,I2,q2⟩
end
structure It where
 go:Nat->Hp->Prop
 yld:Nat->Hp->V->Hp->Prop
 stop:Nat->Hp->Prop
def Jh(X:Cx)(pins:PNx)(H:Hp)(b:AdX):Prop:=H b=none/\b≠X.env.locals/\b∉X.fs/\(b∈X.ex\/X.s₀.heap.objs.size<=b)/\(∀x c,X.env.cells.lookup x=some c->c≠b)/\∀p∈X.pn++pins,p.1≠b
def Inv.zb4{X:Cx}{pins:PNx}{σ:St}{H H':Hp}{s:ShX}{b:AdX}(I:Inv X pins σ H s)(hb:s.heap.objs.size<=b)(hn:H' b=none):Jh X pins H' b:=by
 refine⟨hn,nt (q9 I.lt hb),I.nofs hb,.inr (qw I.sz hb),λx c e z=>?_,λp hp z=>?_⟩
 ·have⟨v,q⟩:=I.cell x c e;exact absurd (q9 q.lt (by rw[z];exact hb)) (k9 _)
 ·exact absurd (q9 (qO (I.pin p hp).1) (by rw[z];exact hb)) (k9 _)
structure Turn(P:Program)(w:World)(K:FRx)(tg:Expr)(J:It)(fp:LAd)(it:AdX)(tn:Nat->Heap->Prop):Prop where
 mem:it∈fp
 obj:∀i h,tn i h->∀b∈fp,∃o,h.get? b=some o/\∀v,o.data≠ .cell v
 keep:∀i h h',tn i h->(∀b∈fp,∀o,h.get? b=some o->h'.get? b=some o)->tn i h'
 item:∀(X:Cx),X.prog=P->X.w=w->X.K=K->X.calm=true->∀(i:Nat)(pins:PNx)(s:ShX)(σ:St)(H:Hp)(E:VSx),Inv X pins σ H s->(∀b∈fp,Jh X pins H b)->tn i s.heap->J.go i H->
  wpAny (model P w) X.A (pyNext (.ref it)) (λr s1=>∃u,r=some u/\
   wpAny (model P w) X.A (letOwnedTupleGo tg (.ref it) u) (λ_ s2=>∃x H',Inv X pins σ H' s2/\RelV x u/\J.yld i H x H'/\tn (i+1) s2.heap/\∀b∈fp,H' b=none) E s1) E s
 done:∀(X:Cx),X.prog=P->X.w=w->X.K=K->X.calm=true->∀(i:Nat)(pins:PNx)(s:ShX)(σ:St)(H:Hp)(E:VSx),Inv X pins σ H s->(∀b∈fp,Jh X pins H b)->tn i s.heap->J.stop i H->
  wpAny (model P w) X.A (pyNext (.ref it)) (λr s1=>r=none/\Inv X pins σ H s1) E s
 self:∀(A:Around)(i:Nat)(s:ShX)(Q:VSx)(E:VSx),tn i s.heap->Q (.ref it) s->wpAny (model P w) A (pyIter (.ref it)) Q E s
abbrev TI:=St->Hp->(It->Hp->Prop)->Prop
def PIE(X:Cx)(pins:PNx)(σ:St)(tg:Expr)(R:It->Hp->Prop)(itv:Value)(s2:ShX):Prop:=∃(it:AdX)(fp:LAd)(tn:Nat->Heap->Prop)(J:It)(H':Hp),itv=.ref it/\Inv X pins σ H' s2/\Turn X.prog X.w X.K tg J fp it tn/\tn 0 s2.heap/\(∀b∈fp,Jh X pins H' b)/\R J H'
def PI(X:Cx)(tg iter:Expr)(wi:TI):Prop:=∀(pins:PNx)(s:ShX)(σ:St)(H:Hp)(R:It->Hp->Prop),Inv X pins σ H s->wi σ H R->
  wpAny (model X.prog X.w) X.A (eval iter X.env) (λv s1=>wpAny (model X.prog X.w) X.A (pyIter v) (PIE X pins σ tg R) X.xe s1) X.xe s
def zhE{M:Model}{A:Around}{E:VSx}{s:ShX}{tg:Expr}{it:AdX}{u:Value}{o:Obj}{n:String}{vs:Array Value}{Q:Unit->Shared->Prop}(ho:s.heap.get? it=some o)(hc:o.cls=.type n)(hd:o.data=.fields vs)(hn:["enumerate","zip","dict_itemiterator","dict_reverseitemiterator","odict_iterator","itertools.zip_longest","itertools.pairwise"].contains n=false)(hQ:Q () s):wpAny M A (letOwnedTupleGo tg (.ref it) u) Q E s:=by
 unfold letOwnedTupleGo;cases tg<;>first
  |exact qU hQ
  |(cases u<;>first
    |exact qU hQ
    |(refine qt (wpAny_load ho ?_)
      rw[hc,hd];show wpAny M A (if (["enumerate","zip","dict_itemiterator","dict_reverseitemiterator","odict_iterator","itertools.zip_longest","itertools.pairwise"].contains n&&vs[0]?==some (rawInt _))=true then _ else _) Q E s
      rw[qo (by intro h;rw[hn,bc] at h;cases h)];exact qU hQ))
def Itl(K:FRx)(a:AdX):It:=⟨λi H=>∃xs x,SqL K H a xs/\xs[i]?=some x,λi H x H'=>H'=H/\∀xs,SqL K H a xs->xs[i]?=some x,λi H=>∃xs,SqL K H a xs/\xs.length<=i⟩
def Itt(K:FRx)(a:AdX):It:=⟨λi H=>∃xs x,SqT K H a xs/\xs[i]?=some x,λi H x H'=>H'=H/\∀xs,SqT K H a xs->xs[i]?=some x,λi H=>∃xs,SqT K H a xs/\xs.length<=i⟩
def Itr(lo:Int)(n:Nat):It:=⟨λi _=>i<n,λi H x H'=>H'=H/\x=.int (lo+i),λi _=>n<=i⟩
def zgb{P:Program}{w:World}{K:FRx}{tg:Expr}(a it:AdX):Turn P w K tg (Itl K a) [it] it (λi h=>h.IsListIter it a i) where
 mem:=by simp
 obj:=λi h st b hb=>by
  have e:b=it:=by simpa using hb
  subst e;have⟨o,e,c,d⟩:=st;exact⟨o,e,λv z=>by rw[d] at z;cases z⟩
 keep:=λi h h' st k=>st.at λo e=>k it (by simp) o e
 item:=by
  intro X hP hw hK hc i pins s σ H E I hf st hg;subst hP hw hK;have⟨xs,x,hq,hx⟩:=hg;have⟨its,rv,p,hz⟩:=I.list hq;have⟨u,hu,ru⟩:=rv.get hx;obtain⟨f0,f1,f2,f3,f4,f5⟩:=hf it (by simp);refine wpAny_pyNext_list_item st p.isList (x:=u) (by simpa using hu) λh' st' sb=>?_
  have I1:Inv X pins σ H { s with heap:=h' }:=I.turned (t':=s.toks) (λb o hb e=>(sb.2 b hb).trans e) f0 f1 f3 f4 f5;have⟨o,e,c,d⟩:=id st'
  exact⟨u,rfl,zhE (s:={ s with heap:=h' }) e c d (by decide) ⟨x,H,I1,ru,⟨rfl,λys hy=>by rw[I.zdD hy hq];exact hx⟩,st',λb hb=>(hf b hb).1⟩⟩
 done:=by
  intro X hP hw hK hc i pins s σ H E I hf st hg;subst hP hw hK;have⟨xs,hq,hx⟩:=hg;have⟨its,rv,p,hz⟩:=I.list hq;obtain⟨f0,f1,f2,f3,f4,f5⟩:=hf it (by simp);have hl:=rv.length;exact wpAny_pyNext_list_end (I.ok.hd hc) st p.isList (by simp;omega) λh' eb=>⟨rfl,I.turned (t':=s.toks) (λb o hb e=>eb b o hb e) f0 f1 f3 f4 f5⟩
 self:=λ_ _ _ _ _ st h=>wpAny_pyIter_listiter st h
def zfd{P:Program}{w:World}{K:FRx}{tg:Expr}(a it:AdX):Turn P w K tg (Itt K a) [it] it (λi h=>h.IsTupleIter it a i) where
 mem:=by simp
 obj:=λi h st b hb=>by
  have e:b=it:=by simpa using hb
  subst e;have⟨o,e,c,d⟩:=st;exact⟨o,e,λv z=>by rw[d] at z;cases z⟩
 keep:=λi h h' st k=>st.at λo e=>k it (by simp) o e
 item:=by
  intro X hP hw hK hc i pins s σ H E I hf st hg;subst hP hw hK;have⟨xs,x,hq,hx⟩:=hg;have⟨its,rv,p,hz⟩:=I.tuple hq;have⟨u,hu,ru⟩:=rv.get hx;obtain⟨f0,f1,f2,f3,f4,f5⟩:=hf it (by simp);refine wpAny_pyNext_tuple_item st (show s.heap.IsTuple a its.toArray from p) (x:=u) (by simpa using hu) λh' st' sb=>?_
  have I1:Inv X pins σ H { s with heap:=h' }:=I.turned (t':=s.toks) (λb o hb e=>(sb.2 b hb).trans e) f0 f1 f3 f4 f5;have⟨o,e,c,d⟩:=id st'
  exact⟨u,rfl,zhE (s:={ s with heap:=h' }) e c d (by decide) ⟨x,H,I1,ru,⟨rfl,λys hy=>by rw[I.zbc hy hq];exact hx⟩,st',λb hb=>(hf b hb).1⟩⟩
 done:=by
  intro X hP hw hK hc i pins s σ H E I hf st hg;subst hP hw hK;have⟨xs,hq,hx⟩:=hg;have⟨its,rv,p,hz⟩:=I.tuple hq;obtain⟨f0,f1,f2,f3,f4,f5⟩:=hf it (by simp);have hl:=rv.length;exact wpAny_pyNext_tuple_end (I.ok.hd hc) st (show s.heap.IsTuple a its.toArray from p) (by simp;omega) λh' eb=>⟨rfl,I.turned (t':=s.toks) (λb o hb e=>eb b o hb e) f0 f1 f3 f4 f5⟩
 self:=λ_ _ _ _ _ st h=>wpAny_pyIter_tupleiter st h
def zeT{P:Program}{w:World}{K:FRx}{tg:Expr}(it:AdX)(lo:Int)(n:Nat):Turn P w K tg (Itr lo n) [it] it (λi h=>IsRangeIter h it (lo+(i:Nat)*1) ((n:Int) - (i:Nat)) 1) where
 mem:=by simp
 obj:=λi h st b hb=>by
  have e:b=it:=by simpa using hb
  subst e;exact⟨_,st,λv z=>by
   have z':Data.fields _=Data.cell v:=z;cases z'⟩
 keep:=λi h h' st k=>k it (by simp) _ st
 item:=by
  intro X hP hw hK hc i pins s σ H E I hf st hg;subst hP hw hK;obtain⟨f0,f1,f2,f3,f4,f5⟩:=hf it (by simp);have W:=Walks.range (prog:=X.prog) (w:=X.w) (I.ok.hd hc) it lo 1 n;refine W.item i s _ _ hg st λv h' tk hv st' kk=>?_
  obtain⟨t,rfl⟩:=hv;have I1:Inv X pins σ H { s with heap:=h',toks:=tk }:=I.turned (λb o hb e=>kk b o (by simpa using hb) e) f0 f1 f3 f4 f5;refine⟨_,rfl,zhE (s:={ s with heap:=h',toks:=tk }) (n:="range_iterator") st' rfl rfl (by decide) ⟨.int (lo+i),H,I1,⟨t,?_⟩,⟨rfl,rfl⟩,st',λb hb=>(hf b hb).1⟩⟩;rw[Int.mul_one]
 done:=by
  intro X hP hw hK hc i pins s σ H E I hf st hg;subst hP hw hK;obtain⟨f0,f1,f2,f3,f4,f5⟩:=hf it (by simp);exact wpAny_pyNext_range_end (I.ok.hd hc) st (by have:n<=i:=hg;omega) λh' eb=>⟨rfl,I.turned (t':=s.toks) (λb o hb e=>eb b o hb e) f0 f1 f3 f4 f5⟩
 self:=λ_ _ _ _ _ st h=>wpAny_pyIter_rangeiter st h
section
variable{X:Cx}{tg:Expr}
def zdl{pins:PNx}{σ:St}{H:Hp}{s:ShX}{R:It->Hp->Prop}{E:VSx}{lo hi:Int}{t u v:Tok}{tk:Nat}(I:Inv X pins σ H s)(h1:-(2 ^ 62)<=lo)(h2:lo<2 ^ 62)(h3:-(2 ^ 62)<=hi)(h4:hi<2 ^ 62)(q:R (Itr lo (hi - lo).toNat) H):wpAny (model X.prog X.w) X.A (pyIter (.ref s.heap.objs.size)) (PIE X pins σ tg R) E { s with heap:=s.heap.push { cls:=.type "range",data:=.fields #[.int lo t,.int hi u,.int 1 v] },toks:=tk }:=by
 refine wpAny_pyIter_range (IsRange.new ..) (small_one h1 h2 h3 h4) ?_;have I1:Inv X pins σ H { s with heap:=s.heap.push { cls:=.type "range",data:=.fields #[.int lo t,.int hi u,.int 1 v] },toks:=tk }:=I.kept λb o e=>qm _ e
 refine⟨(s.heap.push { cls:=.type "range",data:=.fields #[.int lo t,.int hi u,.int 1 v] }).objs.size,[(s.heap.push { cls:=.type "range",data:=.fields #[.int lo t,.int hi u,.int 1 v] }).objs.size],_,_,H,rfl,
  I1.kept (t':=tk) λb o e=>qm _ e,zeT _ lo (hi - lo).toNat,?_,λb hb=>?_,q⟩
 ·have e1:lo+((0:Nat):Int)*1=lo:=by simp
  have e2:(((hi - lo).toNat:Nat):Int) - ((0:Nat):Int)=Builtin.Range.rangeSize lo hi 1:=by rw[rangeSize_one];split<;>omega
  show IsRangeIter _ _ (lo+((0:Nat):Int)*1) ((((hi - lo).toNat:Nat):Int) - ((0:Nat):Int)) 1
  rw[e1,e2];exact qJ _ rfl
 ·have e:b=(s.heap.push { cls:=.type "range",data:=.fields #[.int lo t,.int hi u,.int 1 v] }).objs.size:=by simpa using hb
  subst e;exact I1.zb4 (qf _) (I1.hok.fresh (qf _))
def znm(ta:TA):TI:=λσ H R=>ta σ H λvs H1=>∃j:Int,vs=[.int j]/\-(2 ^ 62)<=j/\j<2 ^ 62/\R (Itr 0 j.toNat) H1
def zmT(ta:TA):TI:=λσ H R=>ta σ H λvs H1=>∃i j:Int,vs=[.int i,.int j]/\(-(2 ^ 62)<=i/\i<2 ^ 62/\-(2 ^ 62)<=j/\j<2 ^ 62)/\R (Itr i (j - i).toNat) H1
def zaV{a:Expr}{ta:TA}{p pos:Pos}(hg:Gl X "range")(hm:X.mg "range"=none)(ha:PA X [a] ta)(hs:starEach [a] X.env=[(false,eval a X.env)]:=by rfl):PI X tg (.Call (.Name "range" p) [a] [] pos) (znm ta):=by
 intro pins s σ H R I h;refine Call_ (UT I hg hm boot_range (gE (thn (ha pos pins s σ H _ I h) λus s1 ⟨vs,H1,I1,r1,q1⟩=>?_) hs rfl));obtain⟨j,e,q1,q2,q⟩:=q1;subst e;cases r1 with
 |cons r rr=>
  cases rr;obtain⟨t,rfl⟩:=r;exact call_range_1 (zdl I1 (by omega) (by omega) q1 q2 (by simpa using q))
def zgD{a b:Expr}{ta:TA}{p pos:Pos}(hg:Gl X "range")(hm:X.mg "range"=none)(ha:PA X [a,b] ta)(hs:starEach [a,b] X.env=[(false,eval a X.env),(false,eval b X.env)]:=by rfl)(hs2:starEach [b] X.env=[(false,eval b X.env)]:=by rfl):PI X tg (.Call (.Name "range" p) [a,b] [] pos) (zmT ta):=by
 intro pins s σ H R I h;refine Call_ (UT I hg hm boot_range (gE (thn (ha pos pins s σ H _ I h) λus s1 ⟨vs,H1,I1,r1,q1⟩=>?_) (by rw[hs,hs2]) (by rw[hs2];rfl)));obtain⟨i,j,e,⟨q1,q2,q3,q4⟩,q⟩:=q1;subst e;cases r1 with
 |cons r rr=>
  cases rr with
  |cons r' rr=>
   cases rr;obtain⟨t,rfl⟩:=r;obtain⟨t',rfl⟩:=r';exact call_range_2 (zdl I1 q1 q2 q3 q4 q)
def znD(wi:TI)(g:TG)(tb:TS):TS:=λD σ H=>wi σ H λJ H1=>∃W:Nat->Nat->St->Hp->Prop,(∃m,W 0 m σ H1)/\∀i m σ H,W i m σ H->
 (J.stop i H/\D.nx σ H)\/(J.go i H/\∃N:St->Hp->Prop,(∀σ' H',N σ' H'->∃m',m'<m/\W (i+1) m' σ' H')/\∀x H',J.yld i H x H'->g x σ H' λσ2 H2=>tb { D with nx:=N,ct:=N,bk:=D.nx } σ2 H2)
def zb2(fp:LAd)(h:Heap):List (Addr×Obj):=fp.filterMap λb=>(h.get? b).map λo=>(b,o)
def je{fp:LAd}{h:Heap}{b:AdX}{o:Obj}(hb:b∈fp)(e:h.get? b=some o):(b,o)∈zb2 fp h:=List.mem_filterMap.mpr ⟨b,hb,by rw[e];rfl⟩
def zgK{fp:LAd}{h:Heap}{p:Addr×Obj}(hp:p∈zb2 fp h):p.1∈fp/\h.get? p.1=some p.2:=by
 have⟨b,hb,e⟩:=List.mem_filterMap.mp hp;cases q:h.get? b with
 |none=>rw[q] at e;cases e
 |some o=>
  rw[q] at e;have e':(b,o)=p:=kb e;subst e';exact⟨hb,q⟩
def Inv.pinned{pins:PNx}{σ:St}{H:Hp}{s:ShX}{fp:LAd}(I:Inv X pins σ H s)(hf:∀b∈fp,Jh X pins H b)(ho:∀b∈fp,∃o,s.heap.get? b=some o/\∀v,o.data≠ .cell v):Inv X (pins++zb2 fp s.heap) σ H s:=I.zfM λp hp=>(qr.mp hp).elim (λz=>I.pin p (qS _ z)) λz=>by
  have⟨hb,e⟩:=zgK z;have⟨f0,f1,f2,_⟩:=hf p.1 hb;have⟨o,e',d⟩:=ho p.1 hb;rw[e] at e';cases e';exact⟨e,f0,f1,f2,d⟩
def Inv.uC{pins pl:PNx}{σ:St}{H:Hp}{s:ShX}(I:Inv X (pins++pl) σ H s):Inv X pins σ H s:=I.zfM λp hp=>I.pin p (qS _ (List.mem_append_left _ hp))
def zd7{iter:Expr}{body:List Stmt}{wi:TI}{g:TG}{tb:TS}{pos:Pos}(hp:PassesOwn (model X.prog X.w) X.A X.env X.xe)(hc:X.calm=true)(hi:PI X tg iter wi)(hg:PG X tg g)(hb:PSs X body tb)(hs:FSx X iter:=by exact λ_=>rfl):PS X (.For tg iter body [] pos) (znD wi g tb):=by
 intro pins s σ H D I h;refine wpAny_For (thn (hi pins s σ H _ I h) λv s1 h1=>thn h1 λitv s2 h2=>?_) hs;have⟨it,fp,tn,J,H2,e,I2,T,st2,f2,W,⟨m0,w0⟩,turn⟩:=h2;subst e;have stat:∀{H':Hp},(∀b∈fp,H' b=none)->∀b∈fp,Jh X pins H' b:=λhn b hb=>⟨hn b hb,(f2 b hb).2⟩
 refine codeAny_forLoop_any (λn s'=>∃i σ' H',Inv X pins σ' H' s'/\tn i s'.heap/\(∀b∈fp,H' b=none)/\W i n σ' H') ?_ m0 ⟨0,σ,H2,I2,st2,λb hb=>(f2 b hb).1,w0⟩;rintro n s3 ⟨i,σ3,H3,I3,st3,fr3,w3⟩;rcases turn i n σ3 H3 w3 with⟨stop,qn⟩|⟨go,N,hN,step⟩
 ·refine mh hp (thn (T.done X rfl rfl rfl hc i pins s3 σ3 H3 X.xe I3 (stat fr3) st3 stop) λr s4 ⟨hr,I4⟩=>?_);subst hr;exact pz ⟨σ3,H3,I4,qn⟩
 ·refine mh hp (thn (T.item X rfl rfl rfl hc i pins s3 σ3 H3 X.xe I3 (stat fr3) st3 go) λr s4 ⟨u,hr,h4⟩=>?_);subst hr;refine mh hp (thn h4 λ_ s5 ⟨x,H5,I5,r5,y5,st5,fr5⟩=>?_);have I5':=I5.pinned (stat fr5) (T.obj _ _ st5);refine mh hp (thn (hg _ s5 σ3 H5 x u _ I5' r5 (step x H5 y5)) λ_ s6 ⟨σ6,H6,I6,q6⟩=>?_);refine mh hp (thn (hb _ s6 σ6 H6 _ I6 q6) λf s7 q7=>?_);have again:∀{σ7:St} {H7:Hp},Inv X (pins++zb2 fp s5.heap) σ7 H7 s7->N σ7 H7->∃m,m<n/\∃i σ' H',Inv X pins σ' H' s7/\tn i s7.heap/\(∀b∈fp,H' b=none)/\W i m σ' H':=λ{σ7 H7} I7 n7=>by
   have⟨m',hm,w7⟩:=hN σ7 H7 n7;refine⟨m',hm,i+1,σ7,H7,I7.uC,T.keep _ _ _ st5 λb hb o e=>(I7.pin (b,o) (qS _ (qS _ (je hb e)))).1,λb hb=>?_,w7⟩;have⟨o,e,d⟩:=T.obj _ _ st5 b hb;exact(I7.pin (b,o) (qS _ (qS _ (je hb e)))).2.1
  cases f with
  |next=>have⟨σ7,H7,I7,n7⟩:=q7;exact again I7 n7
  |cont=>have⟨σ7,H7,I7,n7⟩:=q7;exact again I7 n7
  |brk=>obtain⟨σ7,H7,I7,q7⟩:=q7;exact⟨σ7,H7,I7.uC,q7⟩
  |ret v=>obtain⟨x7,σ7,H7,I7,r7,q7⟩:=q7;exact⟨x7,σ7,H7,I7.uC,r7,q7⟩
end
abbrev R2:=V->V->Hp->VK->Prop
def OpR(X:Cx)(f:Value->Value->Sem Value)(r:R2):Prop:=∀(pins:PNx)(s:ShX)(σ:St)(H:Hp)(x y:V)(v u:Value)(Q:VK),Inv X pins σ H s->RelV x v->RelV y u->r x y H Q->
  wpAny (model X.prog X.w) X.A (f v u) (EP X pins σ Q) X.xe s
def UnR(X:Cx)(f:Value->Sem Value)(r:V->Hp->VK->Prop):Prop:=∀(pins:PNx)(s:ShX)(σ:St)(H:Hp)(x:V)(v:Value)(Q:VK),Inv X pins σ H s->RelV x v->r x H Q->
  wpAny (model X.prog X.w) X.A (f v) (EP X pins σ Q) X.xe s
def vF(X:Cx)(f:Value)(r:List V->Hp->VK->Prop):Prop:=∀(pins:PNx)(s:ShX)(σ:St)(H:Hp)(xs:List V)(us:LVl)(Q:VK),Inv X pins σ H s->Vals xs us->r xs H Q->
  wpAny (model X.prog X.w) X.A (call f us) (EP X pins σ Q) X.xe s
def tOp(r:R2)(ta tb:TE):TE:=λσ H Q=>ta σ H λx H1=>tb σ H1 λy H2=>r x y H2 Q
def tUn(r:V->Hp->VK->Prop)(ta:TE):TE:=λσ H Q=>ta σ H λx H1=>r x H1 Q
def rI(C:Int->Int->Prop)(g:Int->Int->V):R2:=λx y H Q=>∃i j,x=.int i/\y=.int j/\C i j/\Q (g i j) H
def rI0(g:Int->Int->V):R2:=λx y H Q=>∃i j,x=.int i/\y=.int j/\Q (g i j) H
def rU(g:Int->V):V->Hp->VK->Prop:=λx H Q=>∃i,x=.int i/\Q (g i) H
section
variable{X:Cx}{a b c:Expr}{ta tb tc:TE}{pos:Pos}
def zml(ha:PE X a ta)(hb:PE X b tb){pins:PNx}{s:ShX}{σ:St}{H:Hp}{R:V->V->Hp->Prop}(I:Inv X pins σ H s)(h:ta σ H λx H1=>tb σ H1 λy H2=>R x y H2){Q:VSx}{f:Value->Value->Sem Value}(hf:∀v u s2 x y H2,Inv X pins σ H2 s2->RelV x v->RelV y u->R x y H2->wpAny (model X.prog X.w) X.A (f v u) Q X.xe s2):wpAny (model X.prog X.w) X.A (eval a X.env) (λv s₁=>wpAny (model X.prog X.w) X.A (eval b X.env) (λu s₂=>wpAny (model X.prog X.w) X.A (f v u) Q X.xe s₂) X.xe s₁) X.xe s:=by
 refine thn (ha pins s σ H _ I h) λv s1 ⟨x,H1,I1,r1,q1⟩=>?_
 refine thn (hb pins s1 σ H1 _ I1 q1) λu s2 ⟨y,H2,I2,r2,q2⟩=>?_
 exact hf v u s2 x y H2 I2 r1 r2 q2
def zbh{op:Operator}{r:R2}(ho:OpR X (binaryOp op) r)(ha:PE X a ta)(hb:PE X b tb):PE X (.BinOp a op b pos) (tOp r ta tb):=by
 intro pins s σ H Q I h;exact wpAny_BinOp (zml ha hb I h λv u s2 x y H2 I2 rx ry q=>ho pins s2 σ H2 x y v u Q I2 rx ry q)
def zm8{op:UnaryOp}{r:V->Hp->VK->Prop}(ho:UnR X (unaryOp op) r)(ha:PE X a ta):PE X (.UnaryOp op a pos) (tUn r ta):=by
 intro pins s σ H Q I h;exact UnaryOp_ (thn (ha pins s σ H _ I h) λv s1 ⟨x,H1,I1,r1,q1⟩=>ho pins s1 σ H1 x v Q I1 r1 q1)
def opI{f:Value->Value->Sem Value}{C:Int->Int->Prop}{g:Int->Int->Int}(rule:∀(i j:Int)(t u:Tok)(s:ShX)(Q:VSx)(E:VSx),C i j->Q (.int (g i j) s.toks) { s with toks:=s.toks+1 }->wpAny (model X.prog X.w) X.A (f (.int i t) (.int j u)) Q E s):OpR X f (rI C λi j=>.int (g i j)):=by
 intro pins s σ H x y v u Q I rx ry h;obtain⟨i,j,rfl,rfl,hc,q⟩:=h;obtain⟨t,rfl⟩:=rx;obtain⟨t',rfl⟩:=ry;exact rule i j t t' s _ _ hc ⟨.int (g i j),H,I.tok _,⟨_,rfl⟩,q⟩
def zno{f:Value->Value->Sem Value}{g:Int->Int->Int}(rule:∀(i j:Int)(t u:Tok)(s:ShX)(Q:VSx)(E:VSx),Q (.int (g i j) s.toks) { s with toks:=s.toks+1 }->wpAny (model X.prog X.w) X.A (f (.int i t) (.int j u)) Q E s):OpR X f (rI0 λi j=>.int (g i j)):=by
 intro pins s σ H x y v u Q I rx ry h;obtain⟨i,j,rfl,rfl,q⟩:=h;obtain⟨t,rfl⟩:=rx;obtain⟨t',rfl⟩:=ry;exact rule i j t t' s _ _ ⟨.int (g i j),H,I.tok _,⟨_,rfl⟩,q⟩
def zmQ{f:Value->Value->Sem Value}{g:Int->Int->Bool}(rule:∀(i j:Int)(t u:Tok)(s:ShX)(Q:VSx)(E:VSx),Q (.bool (g i j)) s->wpAny (model X.prog X.w) X.A (f (.int i t) (.int j u)) Q E s):OpR X f (rI0 λi j=>.bl (g i j)):=by
 intro pins s σ H x y v u Q I rx ry h;obtain⟨i,j,rfl,rfl,q⟩:=h;obtain⟨t,rfl⟩:=rx;obtain⟨t',rfl⟩:=ry;exact rule i j t t' s _ _ ⟨.bl (g i j),H,I,rfl,q⟩
def jJ:OpR X (binaryOp .Add) (rI0 λi j=>.int (i+j)):=zno λ_ _ _ _ _ _ _ q=>add_int q
def UP:OpR X (binaryOp .Sub) (rI0 λi j=>.int (i - j)):=zno λ_ _ _ _ _ _ _ q=>sub_int q
def xH:OpR X (binaryOp .Mod) (rI (λ_ j=>j≠0) λi j=>.int (i.fmod j)):=opI λ_ _ _ _ _ _ _ hc q=>mod_int' hc q
def unI{f:Value->Sem Value}{g:Int->Int}(rule:∀(i:Int)(t:Tok)(s:ShX)(Q:VSx)(E:VSx),Q (.int (g i) s.toks) { s with toks:=s.toks+1 }->wpAny (model X.prog X.w) X.A (f (.int i t)) Q E s):UnR X f (rU λi=>.int (g i)):=by
 intro pins s σ H x v Q I rx h;obtain⟨i,rfl,q⟩:=h;obtain⟨t,rfl⟩:=rx;exact rule i t s _ _ ⟨.int (g i),H,I.tok _,⟨_,rfl⟩,q⟩
def zlC:UnR X (unaryOp .USub) (rU λi=>.int (-i)):=unI λ_ _ _ _ _ q=>neg_int q
end
section
variable{X:Cx}{a b c:Expr}{ta tb tc:TE}{pos:Pos}
def zmh{pins:PNx}{σ:St}{H:Hp}{s:ShX}{Q:VK}{k k':Bool}(I:Inv X pins σ H s)(q:Q (.bl k) H)(e:k=k'):EP X pins σ Q (.bool k') s:=by
 subst e;exact⟨.bl k,H,I,rfl,q⟩
def zcy:OpR X (compareOp .Lt) (rI0 λi j=>.bl (decide (i<j))):=zmQ λ_ _ _ _ _ _ _ q=>lt_int q
def zfT:OpR X (compareOp .Gt) (rI0 λi j=>.bl (decide (j<i))):=zmQ λ_ _ _ _ _ _ _ q=>gt_int q
def YG:OpR X (compareOp .IsNot) (λx y H Q=>y=.non/\Q (.bl (!decide (x=.non))) H):=by
 intro pins s σ H x y v u Q I rx ry h;obtain⟨rfl,q⟩:=h;cases ry;refine isnot_none_gen (zmh I q ?_);cases x<;>first
  |(cases rx;rfl)
  |(obtain⟨t,rfl⟩:=rx;rfl)
def nomark(b:Expr){op:CmpOp}(h:op≠ .In:=by decide)(h2:op≠ .NotIn:=by decide):behindInMarks op b=false:=by
 have e1:(op==CmpOp.In)=false:=by cases op<;>first |rfl|exact absurd rfl h
 have e2:(op==CmpOp.NotIn)=false:=by cases op<;>first |rfl|exact absurd rfl h2
 cases b<;>simp[behindInMarks,e1,e2]
def zfy{op:CmpOp}{r:R2}(ho:OpR X (compareOp op) r)(ha:PE X a ta)(hb:PE X b tb)(hm:behindInMarks op b=false):PE X (.Compare a [op] [b] pos) (tOp r ta tb):=by
 intro pins s σ H Q I h;exact wpAny_Compare1 (zml ha hb I h λv u s2 x y H2 I2 rx ry q=>ho pins s2 σ H2 x y v u Q I2 rx ry q) hm
def zm5(t:TE):TT:=λσ H Q=>t σ H λx H'=>∃k,x=.bl k/\Q k H'
def zbx{op:CmpOp}{r:R2}(ho:OpR X (compareOp op) r)(ha:PE X a ta)(hb:PE X b tb)(hm:behindInMarks op b=false):PT X (.Compare a [op] [b] pos) (zm5 (tOp r ta tb)):=by
 intro pins s σ H Q I h;refine wpAny_isTrue_Compare1 (thn (ha pins s σ H _ I h) λv s1 ⟨x,H1,I1,r1,q1⟩=>thn (hb pins s1 σ H1 _ I1 q1) λu s2 ⟨y,H2,I2,r2,q2⟩=>
  thn (ho pins s2 σ H2 x y v u _ I2 r1 r2 q2) λc s3 ⟨z,H3,I3,r3,k,e,q3⟩=>?_) hm
 subst e;cases r3;exact mV ⟨H3,I3,q3⟩
def WY:(sizeLine:Nat)<2 ^ 63:=by rw[sizeLine_eq];decide
def vals1{x:V}{us:LVl}(r:Vals [x] us):∃u,us=[u]/\RelV x u:=by
 cases r with
 |cons r1 r2=>cases r2;exact⟨_,rfl,r1⟩
def vals2{x y:V}{us:LVl}(r:Vals [x,y] us):∃u w',us=[u,w']/\RelV x u/\RelV y w':=by
 cases r with
 |cons r1 r2=>
  cases r2 with
  |cons r3 r4=>cases r4;exact⟨_,_,rfl,r1,r3⟩
def zcM:vF X (.builtin "abs") (λxs H Q=>∃i,xs=[.int i]/\Q (.int (if i<0 then -i else i)) H):=by
 intro pins s σ H xs us Q I r h;obtain⟨i,rfl,q⟩:=h;obtain⟨u,rfl,t,rfl⟩:=vals1 r;exact call_abs_int λu tk=>⟨.int (if i<0 then -i else i),H,I.tok _,⟨_,rfl⟩,q⟩
def za6(hc:X.calm=true):vF X (.builtin "max") (λxs H Q=>∃i j,xs=[.int i,.int j]/\Q (.int (if j>i then j else i)) H):=by
 intro pins s σ H xs us Q I r h;obtain⟨i,j,rfl,q⟩:=h;obtain⟨u,w',rfl,⟨t,rfl⟩,⟨t',rfl⟩⟩:=vals2 r;refine max_two_ints (I.ok.hd hc) λh' tk k=>⟨_,H,I.kept k,?_,q⟩
 by_cases hj:j>i
 ·rw[qj hj,qj hj];exact⟨_,rfl⟩
 ·rw[qo hj,qo hj];exact⟨_,rfl⟩
end
structure zeH(h:Heap)(x dx C:AdX)(mA:Str->Option Value):Prop where
 obj:h.get? x=some (W.instObj C dx)
 ns:h.Ns1 dx mA
 ne:dx≠x
def zgY{h:Heap}{dx:AdX}{mA:Str->Option Value}(n:h.Ns1 dx mA):∃od,h.get? dx=some od/\∀name,W.lookIn name od=some (mA name):=by
 have⟨o,es,ep,ho,hd,hk,_,hm⟩:=n;refine⟨o,ho,λname=>?_⟩;have e:=hm name;unfold nsFind findBy at e;rw[<-Array.find?_toList] at e;unfold W.lookIn;rw[hd];dsimp only;split
 ·rename_i y q;rw[q] at e;exact qR some e
 ·rename_i q;rw[q] at e;have a:es.toList.any (·.refKey)=false:=by
   rw[List.any_eq_false];intro y hy;obtain⟨z,t,hkey⟩:=hk y (Array.mem_toList_iff.mp hy);simp[DictEntry.refKey,hkey]
  have a':¬es.toList.any (·.refKey)=true:=by rw[a];exact qL
  rw[qo a'];exact qR some e
def zeH.look{h:Heap}{x dx C:AdX}{mA:Str->Option Value}(I:zeH h x dx C mA):∃od,W.InstAt h x (W.instObj C dx) C (some od)/\∀name,W.lookIn name od=some (mA name):=let ⟨od,ho,hl⟩:=zgY I.ns
 ⟨od,⟨I.obj,rfl,rfl,ho⟩,hl⟩
section
variable{prog:Program}{w:World}{A:Around}{E:VSx}{s:ShX}{K:FRx}{x dx C f:AdX}{mA:Str->Option Value}{name:Str}{v:Value}
def get_map{expr:Bool}{Q:VSx}(X:K.In s.heap)(I:zeH s.heap x dx C mA)(hg:W.plainGet K C name=true)(hh:W.hasDictIn K C=true)(ha:W.findIn K (.ref C) name=some none)(hv:mA name=some v)(hv':W.handedIn v=true)(h:Q v { s with toks:=s.toks+1 }):wpAny (model prog w) A (getAttr (.ref x) name expr) Q E s:=by
 have⟨od,J,hl⟩:=I.look;exact W.get_value X J (W.plainGet_of hg).1 (W.findObj_own hh ha rfl (by rw[hl,hv])) hv' h
def ziG{pl:Sem Bool}{Q:Value×List Value->Shared->Prop}(X:K.In s.heap)(I:zeH s.heap x dx C mA)(hg:W.plainGet K C name=true)(hf:W.findIn K (.ref C) name=some (some (.ref f)))(ht:W.isFn K (.ref f)=true)(hv:mA name=none)(h:Q (.ref f,[.ref x]) s):wpAny (model prog w) A (getMethod (.ref x) name pl) Q E s:=by
 have⟨od,J,hl⟩:=I.look;exact W.method_fn X J (W.plainGet_of hg).1 (W.plainGet_of hg).2 hf (gJ.mp ht) (by show(W.lookIn name od).map (·.isSome)=some false;rw[hl,hv];rfl) h
def zjc{ns:LSr}{Q:Unit->Shared->Prop}(X:K.In s.heap)(I:zeH s.heap x dx C mA)(hs:W.findIn K (.ref C) "__setattr__"=some (some (.builtin "object.__setattr__")))(hp:W.plainOver K C=true)(ht:W.takerIn K C name=some none)(hh:W.hasDictIn K C=true)(hw:PySem.Within mA ns)(hsz:ns.length<=sizeLine)(h:∀h',zeH h' x dx C (λy=>if y=name then some v else mA y)->Heap.SameBut dx s.heap h'->Q () { s with heap:=h',toks:=s.toks+2 }):wpAny (model prog w) A (setAttr (.ref x) name v) Q E s:=by
 have⟨od,J,hl⟩:=I.look;refine W.set_plain X J hs (W.osa_open (s:={ s with toks:=s.toks+1 }) (r:=none) X J hp ht λb=>?_);have⟨cd,hc,hd'⟩:=W.any_some hh;have hx:s.heap.get? x=some ⟨.ref C,some dx,.plain,#[]⟩:=I.obj;refine qt (qU (qt (qt (wpAny_loadPart hx (qt (W.Looks.here (s:={ s with toks:=s.toks+1 }) (W.looks_clsIn X hc) ?_))))));rw[hd'];refine qU (a:=some dx) (qt (qU (qt ?_)));refine wpAny_nsSet1 (s:={ s with toks:=s.toks+1 }) I.ns λh' hn2 hs2=>?_
 obtain⟨oD,esD,epD,hoD,hdD,hcD⟩:=hn2.count (PySem.Within.cons name v hw);refine qt (wpAny_lookBehind hoD (by rw[hdD];exact pastItsLine_dict (qw hcD (by rw[qX];omega))) ?_);exact qU (h _ ⟨(hs2.2 _ (gG I.ne)).trans I.obj,hn2,I.ne⟩ hs2)
def ziu{R:Result->Shared->Prop}{vs:LVl}{kw:List (Str×Value)}(X:K.In s.heap)(hm:W.makesIn K C=true)(hi:W.findIn K (.ref C) "__init__"=some (some (.ref f)))(hf:W.typeIn K (.ref f)=some (.type "function"))(h:codeAny (model prog w) (A.under (.builtin "type.__call__" ⟨.ref C::vs,kw⟩)) (.call (.ref f) ⟨.ref (s.heap.objs.size+1)::vs,kw⟩) (W.InitBack (s.heap.objs.size+1) R)
   { s with heap:=(s.heap.push W.emptyDict).push (W.instObj C s.heap.objs.size) }):codeAny (model prog w) A (.call (.ref C) ⟨vs,kw⟩) R s:=by
 have⟨hh,g,d,t,os⟩:=s;exact W.make_core (W.makes_of X hm) (W.looks_findIn X hi) (λself=>W.bind_fn X self hf) (.inl rfl) h
end
def uQ(f:Str)(v:V):List (Str×V)->List (Str×V)
 |[]=>[(f,v)]
 |(g,x)::r=>if g=f then (g,v)::r else (g,x)::uQ f v r
theorem Yj(f g:Str)(v:V):∀fs:List (Str×V),(uQ f v fs).lookup g=if g=f then some v else fs.lookup g
 |[]=>by
  show List.lookup g [(f,v)]=_
  by_cases h:g=f
  ·have hb:(g==f)=true:=gJ.mpr h;simp only [List.lookup,hb,qj h]
  ·have hb:(g==f)=false:=kW.mpr h;simp only [List.lookup,hb,qo h]
 |(k,x)::r=>by
  have ih:=Yj f g v r;rw[show uQ f v ((k,x)::r)=(if k=f then (k,v)::r else (k,x)::uQ f v r) from rfl];by_cases hk:k=f
  ·rw[qj hk];by_cases h:g=k
   ·have hb:(g==k)=true:=gJ.mpr h;simp only [List.lookup,hb,qj (h.trans hk)]
   ·have hb:(g==k)=false:=kW.mpr h;simp only [List.lookup,hb,qo (λe:g=f=>h (e.trans hk.symm))]
  ·rw[qo hk];by_cases h:g=k
   ·have hb:(g==k)=true:=gJ.mpr h;simp only [List.lookup,hb,qo (λe:g=f=>hk (h.symm.trans e))]
   ·have hb:(g==k)=false:=kW.mpr h;simp only [List.lookup,hb];exact ih
theorem WG(f:Str)(v:V):∀fs:List (Str×V),f∈(uQ f v fs).map (·.1)/\∀g,g∈fs.map (·.1)->g∈(uQ f v fs).map (·.1)
 |[]=>⟨by simp[uQ],λg h=>by simp at h⟩
 |(k,x)::r=>by
  have⟨i1,i2⟩:=WG f v r;rw[show uQ f v ((k,x)::r)=(if k=f then (k,v)::r else (k,x)::uQ f v r) from rfl];by_cases hk:k=f
  ·rw[qj hk];subst hk;exact⟨by simp,λg h=>by simpa using h⟩
  ·rw[qo hk];refine⟨?_,λg h=>?_⟩
   ·rw[gI];exact qA _ i1
   ·rw[gI] at h ⊢;rcases qx.mp h with e|e
    ·exact List.mem_cons.mpr (.inl e)
    ·exact qA _ (i2 g e)
theorem Yl(f:Str)(v:V):∀fs:List (Str×V),(uQ f v fs).length<=fs.length+1
 |[]=>by simp[uQ]
 |(k,x)::r=>by
  have ih:=Yl f v r;rw[show uQ f v ((k,x)::r)=(if k=f then (k,v)::r else (k,x)::uQ f v r) from rfl];by_cases hk:k=f
  ·rw[qj hk,qX,qX];omega
  ·rw[qo hk,qX,qX];omega
def vC.some_of{v:V}{o:Option Value}(r:vC (some v) o):∃u,o=some u/\RelV v u:=by
 cases o with
 |none=>exact(show False from r).elim
 |some u=>exact⟨u,rfl,r⟩
def vC.none_of{o:Option Value}(r:vC none o):o=none:=by
 cases o with
 |none=>rfl
 |some u=>exact(show False from r).elim
def zgs{v:V}{u:Value}(r:RelV v u):W.handedIn u=true:=by
 cases v with
 |non=>cases (show u=Value.none from r);rfl
 |bl b=>cases (show u=Value.bool b from r);rfl
 |int i=>obtain⟨t,e⟩:=(show ∃t,u=Value.int i t from r);cases e;rfl
 |str x=>obtain⟨t,e⟩:=(show ∃t,u=Value.str x t from r);cases e;rfl
 |byt b=>obtain⟨t,e⟩:=(show ∃t,u=Value.bytes b t from r);cases e;rfl
 |flt b=>obtain⟨t,e⟩:=(show ∃t,u=Value.float b t from r);cases e;rfl
 |ref a=>cases (show u=Value.ref a from r);rfl
 |ty n=>cases (show u=Value.type n from r);rfl
section
variable{P:Program}{w:World}{H H':Hp}{h h':Heap}{a C dx:AdX}{fs fs':List (Str×V)}
def zbE(hok:HOk P w H h)(e:H a=some (.ins C dx fs)):∃mA,zeH h a dx C mA/\(∀f,vC (fs.lookup f) (mA f))/\PySem.Within mA (fs.map (·.1))/\fs.length<=1000/\H dx=some (.own a):=by
 obtain⟨d,z,ne,ob,mA,n,r,q⟩:=(show vv P w H h a (.ins C dx fs) from hok a _ e);exact⟨mA,⟨ob,n,ne⟩,r,q,z,d⟩
end
structure Cls(K:FRx)(C:AdX):Prop where
 pg:W.plainGet K C Str.empty=true
 hd:W.hasDictIn K C=true
 po:W.plainOver K C=true
 sa:W.findIn K (.ref C) "__setattr__"=some (some (.builtin "object.__setattr__"))
def Cls.get{K:FRx}{C:AdX}(c:Cls K C)(f:Str):W.plainGet K C f=true:=c.pg
def zI(K:FRx)(C:AdX)(f:Str):Prop:=W.findIn K (.ref C) f=some none
def zI.taker{K:FRx}{C:AdX}{f:Str}(n:zI K C f):W.takerIn K C f=some none:=by
 unfold W.takerIn;rw[show W.findIn K (.ref C) f=some none from n];rfl
structure Meth(K:FRx)(C:AdX)(m:Str)(f:AdX):Prop where
 at_:W.findIn K (.ref C) m=some (some (.ref f))
 fn:W.isFn K (.ref f)=true
 kp:W.keepIn K (.ref f)=true
section
variable{X:Cx}{pins:PNx}{σ:St}{H:Hp}{s:ShX}{a C dx:AdX}{fs:List (Str×V)}{f:Str}{v:V}{A:Around}{E:VSx}
def ze6{b:Bool}{Q:VSx}(I:Inv X pins σ H s)(e:H a=some (.ins C dx fs))(c:Cls X.K C)(n:zI X.K C f)(l:fs.lookup f=some v)(h:∀u s',Inv X pins σ H s'->RelV v u->Q u s'):wpAny (model X.prog X.w) A (getAttr (.ref a) f b) Q E s:=by
 have⟨mA,O,r,_,_,_⟩:=zbE I.hok e;obtain⟨u,hu,ru⟩:=vC.some_of (v:=v) (o:=mA f) (by rw[<-l];exact r f);exact get_map I.kIn O (c.get f) c.hd n hu (zgs ru) (h u _ (I.tok _) ru)
def UK{m:Str}{g:AdX}{pl:Sem Bool}{Q:Value×List Value->Shared->Prop}(I:Inv X pins σ H s)(e:H a=some (.ins C dx fs))(c:Cls X.K C)(k:Meth X.K C m g)(l:fs.lookup m=none)(h:Q (.ref g,[.ref a]) s):wpAny (model X.prog X.w) A (getMethod (.ref a) m pl) Q E s:=by
 have⟨mA,O,r,_,_,_⟩:=zbE I.hok e;have hn:mA m=none:=vC.none_of (by rw[<-l];exact r m);exact ziG I.kIn O (c.get m) k.at_ k.fn hn h
def ze9{y:V}{u:Value}{Q:Unit->Shared->Prop}(I:Inv X pins σ H s)(e:H a=some (.ins C dx fs))(c:Cls X.K C)(n:zI X.K C f)(hl:fs.length<1000)(ry:RelV y u)(h:∀s',Inv X pins σ (upd H a (.ins C dx (uQ f y fs))) s'->Q () s'):wpAny (model X.prog X.w) A (setAttr (.ref a) f u) Q E s:=by
 have⟨mA,O,r,wi,_,ho⟩:=zbE I.hok e;have hz:(fs.map (·.1)).length<=sizeLine:=by rw[qe,sizeLine_eq];omega
 refine zjc I.kIn O c.sa c.po n.taker c.hd wi hz λh' O' sb=>h _ ?_
 have hd:∃o,h'.get? dx=some o:=let ⟨o,_,_,e',_⟩:=O'.ns;⟨o,e'⟩
 refine I.write (x:=a) (e:=dx) (by rw[e];exact True.intro) (.inr ho) (λb q hb z=>(sb.2 b hb).trans z) hd ?_;refine⟨by rw[zV O.ne];exact ho,?_,O.ne,O'.obj,_,O'.ns,λg=>?_,λg hg=>?_⟩
 ·have:=Yl f y fs;omega
 ·show vC ((uQ f y fs).lookup g) (if g=f then some u else mA g)
  rw[Yj];by_cases q:g=f
  ·rw[qj q,qj q];exact ry
  ·rw[qo q,qo q];exact r g
 ·by_cases q:g=f
  ·rw[q];exact(WG f y fs).1
  ·refine(WG f y fs).2 g (wi g λz=>hg ?_);show(if g=f then some u else mA g)=none
   rw[qo q];exact z
def Inv.made(I:Inv X pins σ H s):Inv X pins σ (upd (upd H s.heap.objs.size (.own (s.heap.objs.size+1))) (s.heap.objs.size+1) (.ins C s.heap.objs.size []))
  { s with heap:=(s.heap.push W.emptyDict).push (W.instObj C s.heap.objs.size) }:=by
 have e1:(s.heap.push W.emptyDict).get? s.heap.objs.size=some W.emptyDict:=qJ s.heap rfl;have e2:((s.heap.push W.emptyDict).push (W.instObj C s.heap.objs.size)).get? (s.heap.objs.size+1)=some (W.instObj C s.heap.objs.size):=by
  have:=qJ (s.heap.push W.emptyDict) (o:=W.instObj C s.heap.objs.size) rfl;rwa [gw] at this
 have e3:(s.heap.push W.emptyDict).Ns s.heap.objs.size (λ_=>none):=⟨W.emptyDict,#[],_,e1,rfl,(λe he=>absurd he (by simp)),λ_=>rfl⟩;have I1:=I.laid (a:=s.heap.objs.size) (o:=.own (s.heap.objs.size+1)) (h':=s.heap.push W.emptyDict) (t':=s.toks) (λb u q=>qm _ q) (qf _) ⟨_,e1⟩
 refine I1.laid (a:=s.heap.objs.size+1) (o:=.ins C s.heap.objs.size []) (t':=s.toks) (λb u q=>qm _ q) (nQ (gw _ _)) ?_;have ne:s.heap.objs.size≠s.heap.objs.size+1:=k6 (kR _);refine⟨by rw[zV ne,zH],kE _,ne,e2,λ_=>none,(Heap.Ns1.of_empty e3).at λo q=>qm _ q,λ_=>True.intro,λy hy=>absurd rfl hy⟩
def zjD{prog:Program}{w:World}{env:Env}{e:Expr}{f:Str}{pos:Pos}{s:ShX}{Q:VSx}(hb:attributeBase e f env (eval e env)=eval e env)(h:wpAny (model prog w) A (eval e env) (λo s₁=>wpAny (model prog w) A (getAttr o f true) Q E s₁) E s):wpAny (model prog w) A (eval (.Attribute e f pos) env) Q E s:=Attribute_any_ h (by rw[arm_eval_Attribute,hb])
end
def znK(K:FRx)(ta:TE)(f:Str):TE:=λσ H Q=>ta σ H λx H1=>∃a C dx fs v,x=.ref a/\H1 a=some (.ins C dx fs)/\Cls K C/\zI K C f/\fs.lookup f=some v/\Q v H1
def znP(K:FRx)(ta tv:TE)(f:Str):TS:=λD σ H=>tv σ H λy H1=>ta σ H1 λx H2=>∃a C dx fs,x=.ref a/\H2 a=some (.ins C dx fs)/\Cls K C/\zI K C f/\fs.length<1000/\
 D.nx σ (upd H2 a (.ins C dx (uQ f y fs)))
section
variable{X:Cx}{o e value:Expr}{f:Str}{pos pos' tpos:Pos}{ta tv:TE}
def vb(he:PE X e ta)(hb:attributeBase e f X.env (eval e X.env)=eval e X.env):PE X (.Attribute e f pos) (znK X.K ta f):=by
 intro pins s σ H Q I h;refine zjD hb (thn (he pins s σ H _ I h) λu s1 ⟨x,H1,I1,rx,a,C,dx,fs,v,ex,ea,c,n,l,q⟩=>?_);subst ex;obtain rfl:u=Value.ref a:=rx;exact ze6 I1 ea c n l λu' s2 I2 ru=>⟨v,H1,I2,ru,q⟩
def zbD(ha:PE X o ta)(hv:PE X value tv)(hs:swapsWith value (some (.Attribute o f pos')) pos.line X.env=pure false):PS X (.Assign [.Attribute o f pos'] value pos) (znP X.K ta tv f):=by
 intro pins s σ H D I h;refine plainObj_wpAny_Assign_Attribute (thn (hv pins s σ H _ I h) λu s1 ⟨y,H1,I1,ry,q⟩=>thn (ha pins s1 σ H1 _ I1 q) λov s2 ⟨x,H2,I2,rx,a,C,dx,fs,ex,ea,c,n,l,q2⟩=>?_) hs;subst ex;obtain rfl:ov=Value.ref a:=rx;exact ze9 I2 ea c n l ry λs3 I3=>⟨σ,_,I3,q2⟩
def zlc{pl:Sem Bool}{m:Str}{apos:Pos}{args:List Expr}{pins:PNx}{s:ShX}{σ:St}{H:Hp}{Q:VSx}{te:TE}(he:PE X e te)(I:Inv X pins σ H s)(h:te σ H λx H1=>∃a C dx fs g,x=.ref a/\H1 a=some (.ins C dx fs)/\Cls X.K C/\Meth X.K C m g/\fs.lookup m=none/\
   ∀s1,Inv X pins σ H1 s1->wpAny (model X.prog X.w) X.A (callWith pos (.ref g) [.ref a] (backTo pos (starEach args X.env)) (backToKw pos (keywordEach [] X.env))) Q X.xe s1)(ht:eval (.Call (.Attribute e m apos) args [] pos) X.env=(do
   let ov <-eval e X.env
   standAt apos.atName
   let (f,first) <-holding [ov] (getMethod ov m pl)
   callWith pos f first (backTo pos (starEach args X.env)) (backToKw pos (keywordEach [] X.env)))):wpAny (model X.prog X.w) X.A (eval (.Call (.Attribute e m apos) args [] pos) X.env) Q X.xe s:=by
 refine W.methodCall_KW (pl:=pl) (thn (he pins s σ H _ I h) λu s1 ⟨x,H1,I1,rx,a,C,dx,fs,g,ex,ea,c,k,l,q⟩=>?_) ht;subst ex;obtain rfl:u=Value.ref a:=rx;exact UK I1 ea c k l (q s1 I1)
end
structure Room(k:Nat)(A:Around):Prop where
 hd:A.handled=none
 dp:A.depth+3*k+5<recursionLimit
 un:A.units+16*k+200<cLine
def Room.mono{j k:Nat}{A:Around}(r:Room k A)(h:j<=k):Room j A:=⟨r.hd,by have:=r.dp;omega,by have:=r.un;omega⟩
def Room.deeper{k:Nat}{A:Around}(r:Room (k+1) A)(env:Env):Room k (A.deeper env):=⟨r.hd,by have:=r.dp;show A.depth+1+3*k+5<_;omega,by have:=r.un;show A.units+3+16*k+200<_;omega⟩
def zeF{A:Around}{C:AdX}{us:LVl}{kw:List (Str×Value)}:(A.under (.builtin "type.__call__" ⟨.ref C::us,kw⟩)).depth=A.depth+1:=by
 first |rfl|simp[Around.under,Code.weight,Code.isCreation,Code.isGuard,Code.isCaller,Code.frames,Code.isFrame,guardIds]
def zeU{A:Around}{C:AdX}{us:LVl}{kw:List (Str×Value)}:(A.under (.builtin "type.__call__" ⟨.ref C::us,kw⟩)).units=A.units+1:=by
 first |rfl|simp[Around.under,Code.cUnits,Code.frames,Code.isFrame]
def Room.make{k:Nat}{A:Around}(r:Room (k+1) A)(C:AdX)(us:LVl)(kw:List (Str×Value)):Room k (A.under (.builtin "type.__call__" ⟨.ref C::us,kw⟩)):=⟨r.hd,by have:=r.dp;rw[zeF];omega,by have:=r.un;rw[zeU];omega⟩
def Room.depth{k:Nat}{A:Around}(r:Room k A):A.depth<recursionLimit:=by have:=r.dp;omega
def Room.units{k:Nat}{A:Around}(r:Room k A):A.units+64<cLine:=by have:=r.un;omega
def zmP:TA:=λ_ H Q=>Q [] H
def znv(ta:TE)(tr:TA):TA:=λσ H Q=>ta σ H λx H1=>tr σ H1 λxs H2=>Q (x::xs) H2
section
variable{X:Cx}{e:Expr}{es:List Expr}{te:TE}{t:TA}{pos:Pos}
def xP:PA X [] zmP:=λ_ _ _ _ H Q I h=>Calls.spliced_nil ⟨[],H,I,.nil,h⟩
def yJ(ha:PE X e te)(hr:PA X es t)(hs:SEx X e es:=by rfl):PA X (e::es) (znv te t):=by
 intro pos pins s σ H Q I h;rw[hs];show wpAny _ _ (spliced ((false,eval e X.env)::backTo pos (starEach es X.env))) _ _ s
 refine Calls.spliced_cons (thn (ha pins s σ H _ I h) λu s1 ⟨x,H1,I1,r1,q1⟩=>?_);exact thn (hr pos pins s1 σ H1 _ I1 q1) λus s2 ⟨xs,H2,I2,r2,q2⟩=>⟨x::xs,H2,I2,.cons r1 r2,q2⟩
def znW(t:TA):TE:=λσ H Q=>t σ H λxs H1=>xs.length<=sizeLine/\∀p,H1 p=none->Q (.ref p) (upd H1 p (.tup xs))
def zny(t:TA):TE:=λσ H Q=>t σ H λxs H1=>xs.length<=sizeLine/\∀p,H1 p=none->Q (.ref p) (upd H1 p (.lst xs))
def zew{x1}(h:PA X es t):PE X (.Tuple es x1 pos) (znW t):=by
 intro pins s σ H Q I hq;refine wpAny_Tuple_spliced (thn (h pos pins s σ H _ I hq) λus s1 ⟨xs,H1,I1,r,z,q⟩=>⟨by rw[<-r.length];exact z,?_⟩);have hf:H1 s1.heap.objs.size=none:=I1.hok.fresh (qf _);refine⟨.ref s1.heap.objs.size,upd H1 s1.heap.objs.size (.tup xs),I1.laid (t':=s1.toks) (λb u e=>qm _ e) (qf _) ?_,rfl,q _ hf⟩;exact⟨z,us,r,⟨_,qJ _ rfl,rfl,_,rfl⟩⟩
def zlx(h:PA X es t):PE X (.List es pos) (zny t):=by
 intro pins s σ H Q I hq;refine wpAny_List_spliced (thn (h pos pins s σ H _ I hq) λus s1 ⟨xs,H1,I1,r,z,q⟩=>⟨by rw[<-r.length];exact z,?_⟩);have hf:H1 s1.heap.objs.size=none:=I1.hok.fresh (qf _);refine⟨.ref s1.heap.objs.size,upd H1 s1.heap.objs.size (.lst xs),I1.laid (t':=s1.toks) (λb u e=>qm _ e) (qf _) ?_,rfl,q _ hf⟩;exact⟨z,us,0,r,qJ _ rfl⟩
end
abbrev Sp:=List V->Hp->VK->XK->Prop
abbrev CXT:=List Env->Hp->Shared->XK->Value->Shared->Prop
structure zer(P:Program)(w:World)(K:FRx)(mg:Str->Option Value)(base:Heap)(A:Around)(outer:List Env)(s:ShX)(H:Hp):Prop where
 frames:A.frames=some outer
 mod:Mod K mg base
 bs:∀b o,base.get? b=some o->s.heap.get? b=some o/\H b=none
 bsz:base.objs.size<=s.heap.objs.size
 funs:s.heap.FunFrames base outer
 frf:∀b∈frs outer,H b=none
 hok:HOk P w H s.heap
 bare:AllBare s.gens
def CE(outer:List Env)(P:Program)(w:World)(H:Hp)(s:ShX)(Q:VK)(u:Value)(s':ShX):Prop:=∃v H',s'.os=s.os/\AllBare s'.gens/\Un (frs outer) [] H H' s.heap s'.heap/\HOk P w H' s'.heap/\RelV v u/\Q v H'
def CR(CX:CXT)(outer:List Env)(P:Program)(w:World)(H:Hp)(s:ShX)(Q:VK)(E:XK)(r:Result)(s':ShX):Prop:=match r with
 | .ok (.ret u)=>CE outer P w H s Q u s'
 | .ok _=>False
 | .error e=>CX outer H s E e s'
structure v7(P:Program)(w:World)(K:FRx)(mg:Str->Option Value)(base:Heap)(CX:CXT)(k:Nat)(f:AdX)(fd:FuncData)(ps:LSr)(sp:Sp):Prop where
 len:∀vs H Q E,sp vs H Q E->vs.length=ps.length
 run:∀(A:Around)(outer:List Env)(s:ShX)(H:Hp)(args:Args)(us:LVl)(vs:List V)(Q:VK)(E:XK),Room k A->zer P w K mg base A outer s H->BindsTo s fd args (ps.zip us)->Vals vs us->sp vs H Q E->
  codeAny (model P w) A (.call (.ref f) args) (CR CX outer P w H s Q E) s
def v7.imp{P:Program}{w:World}{K:FRx}{mg:Str->Option Value}{base:Heap}{CX:CXT}{k:Nat}{f:AdX}{fd:FuncData}{ps:LSr}{sp sp':Sp}(F:v7 P w K mg base CX k f fd ps sp)(h:∀vs H Q E,sp' vs H Q E->sp vs H Q E):v7 P w K mg base CX k f fd ps sp':=⟨λvs H Q E q=>F.len vs H Q E (h _ _ _ _ q),λA outer s H args us vs Q E hr he hb hv hs=>F.run A outer s H args us vs Q E hr he hb hv (h _ _ _ _ hs)⟩
def zer.make{P:Program}{w:World}{K:FRx}{mg:Str->Option Value}{base:Heap}{A:Around}{outer:List Env}{s:ShX}{H:Hp}(e:zer P w K mg base A outer s H)(C:AdX)(us:LVl)(kw:List (Str×Value)):zer P w K mg base (A.under (.builtin "type.__call__" ⟨.ref C::us,kw⟩)) outer s H:=⟨by first |exact e.frames|(simpa [Around.under,Code.envs,Code.isFrame,pushEnvs] using e.frames),e.mod,e.bs,e.bsz,e.funs,e.frf,e.hok,e.bare⟩
section
variable{X:Cx}{pins:PNx}{σ:St}{H:Hp}{s s':ShX}
def Inv.zmY(I:Inv X pins σ H s):zer X.prog X.w X.K X.mg X.base X.A X.stack s H:=⟨I.ok.frames,I.ok.mod,I.bs,qw I.ok.bsz I.sz,I.stack,I.zfB,I.hok,I.bare⟩
def Inv.after{Q:VK}{u:Value}(I:Inv X pins σ H s)(h:CE X.stack X.prog X.w H s Q u s'):EP X pins σ Q u s':=by
 have⟨v,H',os,bare,un,hok,r,q⟩:=h;have⟨hh,g,d,t,os'⟩:=s';obtain rfl:os'=s.os:=os;exact⟨v,H',I.call (h':=hh) (g':=g) (d':=d) (t':=t) (ch:=[]) un hok bare (λb z=>absurd z (by simp)),r,q⟩
end
def zk5(sp:Sp)(dvs:List V)(E:XK)(t:TA):TE:=λσ H Q=>t σ H λvs H1=>sp (vs++dvs) H1 Q E
def zkU(C:AdX)(m:Str)(sp:Sp)(dvs:List V)(E:XK)(ta:TE)(t:TA):TE:=λσ H Q=>ta σ H λx H1=>∃a dx fs,x=.ref a/\H1 a=some (.ins C dx fs)/\fs.lookup m=none/\
 t σ H1 λvs H2=>sp (x::(vs++dvs)) H2 Q E
def znn(C:AdX)(sp:Sp)(dvs:List V)(E:XK)(t:TA):TE:=λσ H Q=>t σ H λvs H1=>∀x dx,H1 x=none->H1 dx=none->dx≠x->
 sp (.ref x::(vs++dvs)) (upd (upd H1 dx (.own x)) x (.ins C dx [])) (λv H2=>v=.non/\Q (.ref x) H2) E
def Binds(K:FRx)(fd:FuncData)(ps:LSr)(ds:LVl):Prop:=∀(s:ShX)(us:LVl),K.In s.heap->(us++ds).length=ps.length->BindsTo s fd ⟨us,[]⟩ (ps.zip (us++ds))
def Binds.all{K:FRx}{fd:FuncData}{ps:LSr}(h:∀us:List Value,us.length=ps.length->bindArgs fd ⟨us,[]⟩=pure (ps.zip us)):Binds K fd ps []:=λs us _ hl=>by
 rw[kj] at hl ⊢;exact .of_eq (h us hl)
def Passes(CX:CXT)(X:Cx)(E:XK):Prop:=∀(pins:PNx)(σ:St)(H:Hp)(s:ShX)(e:Value)(s':ShX),Inv X pins σ H s->CX X.stack H s E e s'->X.xe e s'
section
variable{X:Cx}{CX:CXT}{k:Nat}{f C:AdX}{fd:FuncData}{ps:LSr}{sp:Sp}{dvs:List V}{ds:LVl}{E:XK}{x m:Str}{p pos apos:Pos}{e o:Expr}{es:List Expr}{ta:TE}{t:TA}
def ze7{pins:PNx}{σ:St}{H:Hp}{s:ShX}{Q:VK}{us:LVl}{vs:List V}(F:v7 X.prog X.w X.K X.mg X.base CX k f fd ps sp)(hr:Room k X.A)(hb:Binds X.K fd ps ds)(hd:Vals dvs ds)(hx:Passes CX X E)(I:Inv X pins σ H s)(r:Vals vs us)(h:sp (vs++dvs) H Q E):wpAny (model X.prog X.w) X.A (call (.ref f) us) (EP X pins σ Q) X.xe s:=by
 have r2:Vals (vs++dvs) (us++ds):=r.append hd;have hl:(us++ds).length=ps.length:=by rw[<-r2.length];exact F.len _ _ _ _ h
 refine wpAny_call (p7 (F.run X.A X.stack s H ⟨us,[]⟩ (us++ds) (vs++dvs) Q E hr I.zmY (hb s us I.kIn hl) r2 h) λr s' hq=>?_);cases r with
 |error e=>exact hx pins σ H s e s' I hq
 |ok fl=>
  cases fl with
  |ret u=>exact I.after hq
  |next=>exact False.elim hq
  |brk=>exact False.elim hq
  |cont=>exact False.elim hq
def zjM(F:v7 X.prog X.w X.K X.mg X.base CX k f fd ps sp)(hr:Room k X.A)(hg:Gl X x)(hm:X.mg x=some (.ref f))(hk:W.keepIn X.K (.ref f)=true)(hb:Binds X.K fd ps ds)(hd:Vals dvs ds)(hx:Passes CX X E)(ha:PA X (e::es) t)(hdb:NDx x:=by decide)(he:SEx X e es:=by rfl)(hpl:PLx X pos es:=by rfl):PE X (.Call (.Name x p) (e::es) [] pos) (zk5 sp dvs E t):=by
 intro pins s σ H Q I h;refine nK (zbX I hg hm ?_ hdb);refine W.callWith_K (h₀:=X.base) I.ok.mod.kin hk (thn (ha pos pins s σ H _ I h) λus s1 ⟨vs,H1,I1,r,q⟩=>⟨I1.kIn,?_⟩) he hpl;exact ze7 F hr hb hd hx I1 r q
def zbp{pl:Sem Bool}(he:PE X o ta)(c:Cls X.K C)(hm:Meth X.K C m f)(F:v7 X.prog X.w X.K X.mg X.base CX k f fd ps sp)(hr:Room k X.A)(hb:Binds X.K fd ps ds)(hd:Vals dvs ds)(hx:Passes CX X E)(ha:PA X (e::es) t)(hst:SEx X e es:=by rfl)(hpl:PLx X pos es:=by rfl)(ht:eval (.Call (.Attribute o m apos) (e::es) [] pos) X.env=(do
   let ov <-eval o X.env
   standAt apos.atName
   let (f,first) <-holding [ov] (getMethod ov m pl)
   callWith pos f first (backTo pos (starEach (e::es) X.env)) (backToKw pos (keywordEach [] X.env))):=by rfl):PE X (.Call (.Attribute o m apos) (e::es) [] pos) (zkU C m sp dvs E ta t):=by
 intro pins s σ H Q I h;refine W.methodCall_KW (pl:=pl) (thn (he pins s σ H _ I h) λu s1 ⟨x,H1,I1,rx,a,dx,fs,ex,ea,l,q⟩=>?_) ht;subst ex;obtain rfl:u=Value.ref a:=rx;refine UK I1 ea c hm l ?_;refine W.callWith_K (first:=[.ref a]) (h₀:=X.base) I.ok.mod.kin hm.kp (thn (ha pos pins s1 σ H1 _ I1 q) λus s2 ⟨vs,H2,I2,r,q2⟩=>⟨I2.kIn,?_⟩) hst hpl;exact ze7 (us:=.ref a::us) (vs:=.ref a::vs) F hr hb hd hx I2 (.cons rfl r) q2
def zdz{pl:Sem Bool}(he:PE X o ta)(c:Cls X.K C)(hm:Meth X.K C m f)(F:v7 X.prog X.w X.K X.mg X.base CX k f fd ps sp)(hr:Room k X.A)(hb:Binds X.K fd ps ds)(hd:Vals dvs ds)(hx:Passes CX X E)(ht:eval (.Call (.Attribute o m apos) [] [] pos) X.env=(do
   let ov <-eval o X.env
   standAt apos.atName
   let (f,first) <-holding [ov] (getMethod ov m pl)
   callWith pos f first (backTo pos (starEach [] X.env)) (backToKw pos (keywordEach [] X.env))):=by rfl):PE X (.Call (.Attribute o m apos) [] [] pos) (zkU C m sp dvs E ta zmP):=by
 intro pins s σ H Q I h;refine W.methodCall_KW (pl:=pl) (thn (he pins s σ H _ I h) λu s1 ⟨x,H1,I1,rx,a,dx,fs,ex,ea,l,q⟩=>?_) ht;subst ex;obtain rfl:u=Value.ref a:=rx;refine UK I1 ea c hm l ?_;exact W.callWith_K0 (first:=[.ref a]) I1.kIn hm.kp (ze7 (us:=[.ref a]) (vs:=[.ref a]) F hr hb hd hx I1 (.cons rfl .nil) q)
structure Mk(K:FRx)(C f:AdX):Prop where
 makes:W.makesIn K C=true
 init:W.findIn K (.ref C) "__init__"=some (some (.ref f))
 fn:W.isFn K (.ref f)=true
 kp:W.keepIn K (.ref C)=true
def zhO{pins:PNx}{σ:St}{H:Hp}{s:ShX}{Q:VK}{us:LVl}{vs:List V}(M:Mk X.K C f)(F:v7 X.prog X.w X.K X.mg X.base CX k f fd ps sp)(hr:Room (k+1) X.A)(hb:Binds X.K fd ps ds)(hd:Vals dvs ds)(hx:Passes CX X E)(I:Inv X pins σ H s)(r:Vals vs us)(h:∀x dx,H x=none->H dx=none->dx≠x->sp (.ref x::(vs++dvs)) (upd (upd H dx (.own x)) x (.ins C dx [])) (λv H2=>v=.non/\Q (.ref x) H2) E):wpAny (model X.prog X.w) X.A (call (.ref C) us) (EP X pins σ Q) X.xe s:=by
 have hq:=h (s.heap.objs.size+1) s.heap.objs.size (I.hok.fresh (mY _)) (I.hok.fresh (qf _)) (k6 (kR _));have I2:=Inv.made (C:=C) I
 have r2:Vals (V.ref (s.heap.objs.size+1)::(vs++dvs)) (Value.ref (s.heap.objs.size+1)::(us++ds)):=.cons rfl (r.append hd);have hl:(Value.ref (s.heap.objs.size+1)::us++ds).length=ps.length:=by
  have e:=r2.length;rw[F.len _ _ _ _ hq] at e;exact e.symm
 refine wpAny_call (ziu (f:=f) I.kIn M.makes M.init (gJ.mp M.fn) (p7 (F.run _ X.stack _ _ ⟨Value.ref (s.heap.objs.size+1)::us,[]⟩ (Value.ref (s.heap.objs.size+1)::(us++ds)) _ _ E (hr.make C us [])
  (I2.zmY.make C us []) (hb _ (Value.ref (s.heap.objs.size+1)::us) I2.kIn hl) r2 hq) λr s' hq'=>?_))
 cases r with
 |error e=>exact hx pins σ _ _ e s' I2 hq'
 |ok fl=>
  cases fl with
  |ret u=>
   have⟨v,H',I3,rv,ev,q3⟩:=I2.after hq';subst ev;exact⟨rv,⟨V.ref (s.heap.objs.size+1),H',I3,rfl,q3⟩⟩
  |next=>exact False.elim hq'
  |brk=>exact False.elim hq'
  |cont=>exact False.elim hq'
def zi9(M:Mk X.K C f)(F:v7 X.prog X.w X.K X.mg X.base CX k f fd ps sp)(hr:Room (k+1) X.A)(hg:Gl X x)(hm:X.mg x=some (.ref C))(hb:Binds X.K fd ps ds)(hd:Vals dvs ds)(hx:Passes CX X E)(ha:PA X (e::es) t)(hdb:NDx x:=by decide)(he:SEx X e es:=by rfl)(hpl:PLx X pos es:=by rfl):PE X (.Call (.Name x p) (e::es) [] pos) (znn C sp dvs E t):=by
 intro pins s σ H Q I h;refine nK (zbX I hg hm ?_ hdb);refine W.callWith_K (h₀:=X.base) I.ok.mod.kin M.kp (thn (ha pos pins s σ H _ I h) λus s1 ⟨vs,H1,I1,r,q⟩=>⟨I1.kIn,?_⟩) he hpl;exact zhO M F hr hb hd hx I1 r q
end
structure zr(N P:LSr)(sc:Scope):Prop where
 kind:sc.kind=.function
 co:sc.isCoroutine=false
 gen:sc.isGenerator=false
 nd:N.Nodup
 pre:N.take P.length=P
 par:∀x∈P,sc.names.lookup x=some .local\/sc.names.lookup x=some .cell
 nofree:∀y∈sc.names,y.2≠ .free
def scx{N P:LSr}{sc:Scope}(a:sc.kind=.function:=by rfl)(c:sc.isCoroutine=false:=by rfl)(g:sc.isGenerator=false:=by rfl)(p:N.take P.length=P:=by rfl)(h:N.Nodup/\(∀x∈P,sc.names.lookup x=some .local\/sc.names.lookup x=some .cell)/\∀y∈sc.names,y.2≠ .free:=by decide+kernel):zr N P sc:=⟨a,c,g,h.1,p,h.2.1,h.2.2⟩
theorem zaQ{kindOf:Str->Option NameKind}{x:Str}:∀{binds:List (Str×Value)} {m:Str->Option Value},(∀v,(x,v)∉binds)->bindL kindOf binds m x=m x
 |[],_,_=>rfl
 |(n,v)::r,m,h=>by
  unfold bindL;rw[zaQ λw hw=>h w (qA _ hw)];split
  ·have:x≠n:=by rintro rfl;exact h v ka
   simp[this]
  ·rfl
theorem za9{kindOf:Str->Option NameKind}{x:Str}:∀{binds:List (Str×Value)} {m:Str->Option Value},(∀v,(x,v)∉binds)->bindC kindOf binds m x=m x
 |[],_,_=>rfl
 |(n,v)::r,m,h=>by
  unfold bindC;rw[za9 λw hw=>h w (qA _ hw)];split
  ·rfl
  ·have:x≠n:=by rintro rfl;exact h v ka
   simp[this]
theorem zaO{kindOf:Str->Option NameKind}{x:Str}{v:Value}:∀{P:LSr} {vs:LVl} {i:Nat} {m:Str->Option Value},P.Nodup->P[i]?=some x->vs[i]?=some v->kindOf x=some .local->
  bindL kindOf (P.zip vs) m x=some v
 |[],_,_,_,_,h,_,_=>by simp at h
 |_::_,[],_,_,_,_,h,_=>by simp at h
 |p::P,w::vs,0,m,nd,h1,h2,hk=>by
  simp at h1 h2;subst h1;subst h2
  show bindL kindOf ((p,w)::P.zip vs) m p=_
  unfold bindL;rw[zaQ λv hv=>(ke.mp nd).1 (ng hv).1,qj hk];simp
 |p::P,w::vs,i+1,m,nd,h1,h2,hk=>by
  show bindL kindOf ((p,w)::P.zip vs) m x=_
  unfold bindL;exact zaO (i:=i) (ke.mp nd).2 (by simpa using h1) (by simpa using h2) hk
theorem zaK{kindOf:Str->Option NameKind}{x:Str}{v:Value}:∀{P:LSr} {vs:LVl} {i:Nat} {m:Str->Option Value},P.Nodup->P[i]?=some x->vs[i]?=some v->kindOf x≠some .local->
  bindC kindOf (P.zip vs) m x=some v
 |[],_,_,_,_,h,_,_=>by simp at h
 |_::_,[],_,_,_,_,h,_=>by simp at h
 |p::P,w::vs,0,m,nd,h1,h2,hk=>by
  simp at h1 h2;subst h1;subst h2
  show bindC kindOf ((p,w)::P.zip vs) m p=_
  unfold bindC;rw[za9 λv hv=>(ke.mp nd).1 (ng hv).1,qo hk];simp
 |p::P,w::vs,i+1,m,nd,h1,h2,hk=>by
  show bindC kindOf ((p,w)::P.zip vs) m x=_
  unfold bindC;exact zaK (i:=i) (ke.mp nd).2 (by simpa using h1) (by simpa using h2) hk
def start(N:LSr)(vs:List V):St:=vs.map some++List.replicate (N.length - vs.length) none
def Ug(CX:CXT)(P:Program)(w:World)(K:FRx)(mg:Str->Option Value)(base:Heap)(N:LSr)(qual:Str)(scope:Scope)(f:AdX)(cd:Value)(A:Around)(outer:List Env)(s:ShX)(H:Hp)(E:XK):Cx where
 prog:=P
 w:=w
 K:=K
 mg:=mg
 base:=base
 A:=A.deeper (envOfC qual scope s.heap.objs.size f cd)
 N:=N
 s₀:=s
 H₀:=H
 env:=envOfC qual scope s.heap.objs.size f cd
 outer:=outer
 stack:=envOfC qual scope s.heap.objs.size f cd::outer
 ex:=[]
 calm:=true
 fn:=λ_=>true
 pn:=[]
 xe:=λe s'=>wpAny (model P w) (A.deeper (envOfC qual scope s.heap.objs.size f cd)) (leaving (envOfC qual scope s.heap.objs.size f cd) e) (λ_ s''=>CX outer H s E e s'') (λe' s''=>CX outer H s E e' s'') s'
def zdZ{sc:Scope}{n:Nat}{x:Str}(h:sc.names.lookup x=some .cell):∃c,(cellsFrom n sc.names []).lookup x=some c:=by
 have q:=W.cellsFrom_some sc.names n [] (.inl h);exact Option.isSome_iff_exists.mp q
def zgr{CX:CXT}{P:Program}{w:World}{K:FRx}{mg:Str->Option Value}{base:Heap}{N ps:LSr}{qual:Str}{scope:Scope}{f:AdX}{cd:Value}{A:Around}{outer:List Env}{s s1:ShX}{H:Hp}{E:XK}{us:LVl}{vs:List V}(S:zr N ps scope)(hd:A.handled=none)(e0:zer P w K mg base A outer s H)(hl:vs.length=ps.length)(r:Vals vs us)(x:InCallC s s.heap.objs.size (bindL (envOfC qual scope s.heap.objs.size f cd).kindOf (ps.zip us) λ_=>none) (cellsFrom (s.heap.objs.size+1) scope.names []) (bindC (envOfC qual scope s.heap.objs.size f cd).kindOf (ps.zip us) λ_=>none) s1):Inv (Ug CX P w K mg base N qual scope f cd A outer s H E) [] (start N vs) H s1:=by
 have hpl:ps.length<=N.length:=by have:=qR List.length S.pre;rw[kD] at this;omega
 obtain⟨h1,tk,rfl,hk⟩:=x.done;have noA:∀b:Addr,b∉(Ug CX P w K mg base N qual scope f cd A outer s H E).ex:=λb z=>absurd (show b∈([]:LAd) from z) (by simp)
 refine⟨⟨e0.mod,S.kind,rfl,rfl,qf _,λy z c h1 h2=>?_,λy hy=>?_,λy c _ h=>?_,λ_=>hd,Around.frames_deeper e0.frames,.inr ⟨rfl,rfl⟩,λb z=>absurd z (noA b),e0.bs,e0.bsz,λb _ _=>noA b,λb z=>absurd z (noA b),e0.funs,e0.frf⟩,
  rfl,e0.bare,Un.kept hk,⟨_,x.toInCall.ns,λi y v h1 h2 h3=>?_⟩,λy c h=>⟨_,x.cell y c h⟩,e0.hok.fresh (qf _),λy c h=>?_,λp hp=>absurd (show p∈([]:PNx) from hp) (by simp),e0.hok.kept hk,?_⟩
 ·exact name_of_addr x.apart (kO h1) (kO h2)
 ·have hy:scope.names.lookup y=some .cell\/scope.names.lookup y=some .free:=hy;rcases hy with hy|hy
  ·exact zdZ hy
  ·exact absurd rfl (S.nofree _ (kO hy))
 ·exact nu (x.above y c (kO h))
 ·have hi:i<vs.length:=by
   unfold start at h2;by_cases hi:i<vs.length
   ·exact hi
   ·rw[qz (by simpa using hi)] at h2;rw[kz] at h2;split at h2<;>cases h2
  have ha:vs[i]?=some v:=by
   unfold start at h2;rw[qK (by simpa using hi),qq] at h2;cases e:vs[i]? with
   |none=>rw[e] at h2;cases h2
   |some a=>rw[e] at h2;cases h2;rfl
  have⟨u,hu,rv⟩:=r.get ha;have hp:ps[i]?=some y:=by
   rw[<-S.pre,bo (by omega)];exact h1
  have ndP:ps.Nodup:=by rw[<-S.pre];exact S.nd.sublist (List.take_sublist _ _)
  refine⟨u,rv,?_⟩;rcases S.par y (qN hp) with k|k
  ·exact .inl ⟨k,zaO ndP hp hu k⟩
  ·obtain⟨c,e⟩:=zdZ (n:=s.heap.objs.size+1) k;refine .inr ⟨.inl k,c,e,?_⟩;have q:=x.cell y c e;rw[zaK ndP hp hu (by show scope.names.lookup y≠_;rw[k];decide)] at q;exact q
 ·exact e0.hok.fresh (nu (x.above y c (kO h)))
 ·unfold start;show _=N.length
  rw[qy,qe,mQ];omega
def zng{CX:CXT}{P:Program}{w:World}{K:FRx}{mg:Str->Option Value}{base:Heap}{k:Nat}{f:AdX}{name qual:Str}{params:Arguments}{body:List Stmt}{scope:Scope}{dV kV doc pm cdv ct oc:Value}{an od:Option Addr}{osl:Array (Option Value)}{N ps:LSr}{sp:Sp}(lk:K.lookup f=some ⟨oc,od,.func (W.fnOf name qual params body scope dV kV doc pm an cdv ct),osl⟩)(hcd:W.codeIn K cdv qual=true)(S:zr N ps scope)(len:∀vs H Q E,sp vs H Q E->vs.length=ps.length)(hbody:∀(A:Around)(outer:List Env)(s:ShX)(H:Hp)(vs:List V)(Q:VK)(E:XK),Room k (A.deeper (envOfC qual scope s.heap.objs.size f cdv))->sp vs H Q E->
   ∃t,PSs (Ug CX P w K mg base N qual scope f cdv A outer s H E) body t/\t { nx:=λ_ H'=>Q .non H',rt:=Q } (start N vs) H):v7 P w K mg base CX (k+1) f (W.fnOf name qual params body scope dV kV doc pm an cdv ct) ps sp:=by
 refine⟨len,λA outer s H args us vs Q E hr e0 hb r hsp=>?_⟩;have hl:=len _ _ _ _ hsp;have KX:K.In s.heap:=e0.mod.kin.keeps λb o e=>(e0.bs b o e).1
 have lim:s.heap.NoLimit:=e0.mod.nolimit.keeps λb o e=>(e0.bs b o e).1
 have hkind:∀y∈ps.zip us,scope.names.lookup y.1=some .local\/(scope.names.lookup y.1=some .cell/\((cellsFrom (s.heap.objs.size+1) scope.names []).lookup y.1).isSome=true):=λ⟨n,v⟩ hy=>by
  rcases S.par n (ng hy).1 with q|q
  ·exact .inl q
  ·exact .inr ⟨q,W.cellsFrom_some _ _ _ (.inl q)⟩
 refine codeAny_call_function hr.depth (KX _ _ lk) rfl S.co S.gen rfl (W.codeRec_of KX hcd) (hb _ _ _ _ ?_);refine wpAny_newFunctionEnv_cells S.kind hkind λenv he s1 x=>?_
 subst he;refine⟨lim.keeps x.toInCall.keep,codeAny_func ?_⟩;obtain⟨t,ht,hq⟩:=hbody A outer s H vs Q E (hr.deeper _) hsp;have I:Inv (Ug CX P w K mg base N qual scope f cdv A outer s H E) [] (start N vs) H s1:=zgr S hr.hd e0 hl r x;refine gu (ht [] s1 (start N vs) H _ I hq) (λfl s' hs=>?_) λe s' hs=>hs
 have fin:∀{σ':St} {H':Hp} {v:V} {u:Value},Inv (Ug CX P w K mg base N qual scope f cdv A outer s H E) [] σ' H' s'->RelV v u->Q v H'->CE outer P w H s Q u s':=λ{σ' H' v u} J rv q=>⟨v,H',J.os,J.bare,J.base,J.hok,rv,q⟩
 cases fl with
 |ret u=>
  have⟨v,σ',H',J,rv,q⟩:=hs;exact fin J rv q
 |next=>
  have⟨σ',H',J,q⟩:=hs;exact fin (v:=V.non) (u:=Value.none) J rfl q
 |brk=>
  have⟨_,_,_,q⟩:=hs;exact False.elim q
 |cont=>
  have⟨_,_,_,q⟩:=hs;exact False.elim q
section
variable{X:Cx}{x:Str}{p pos:Pos}{e:Expr}{es:List Expr}{t:TA}{id T:String}{r:List V->Hp->VK->Prop}
def tCB(r:List V->Hp->VK->Prop)(t:TA):TE:=λσ H Q=>t σ H λvs H1=>r vs H1 Q
def V7(hc:vF X (.builtin id) r)(hg:Gl X x)(hm:X.mg x=none)(hv:bootBuiltins x=some (.builtin id))(ha:PA X (e::es) t)(hn:x≠"__name__":=by decide)(hdb:NDx x:=by decide)(he:SEx X e es:=by rfl)(hpl:PLx X pos es:=by rfl):PE X (.Call (.Name x p) (e::es) [] pos) (tCB r t):=by
 intro pins s σ H Q I h;refine nK (UT I hg hm hv ?_ hn hdb);exact PyProof.Rows.callWith_builtin1 (thn (ha pos pins s σ H _ I h) λus s1 ⟨vs,H1,I1,r1,q1⟩=>hc pins s1 σ H1 vs us Q I1 r1 q1) he hpl
def JV(hc:vF X (.type T) r)(hg:Gl X x)(hm:X.mg x=none)(hv:bootBuiltins x=some (.type T))(ha:PA X (e::es) t)(hn:x≠"__name__":=by decide)(hdb:NDx x:=by decide)(he:SEx X e es:=by rfl)(hpl:PLx X pos es:=by rfl):PE X (.Call (.Name x p) (e::es) [] pos) (tCB r t):=by
 intro pins s σ H Q I h;refine nK (UT I hg hm hv ?_ hn hdb);exact gE (thn (ha pos pins s σ H _ I h) λus s1 ⟨vs,H1,I1,r1,q1⟩=>hc pins s1 σ H1 vs us Q I1 r1 q1) he hpl
end
end L2
namespace HT
open PySem PyProof.Rows
section
open PySem.SeqAt
open PySem.AutoSeq1 (wpAny_loadPart')
open PySem.MeetsSeq PySem.MeetsSeq2 PySem.MeetsSeq3
end
section
variable{prog:Program}{w:World}{A:Around}{E:VSx}{s:ShX}
def zjG{t b:AdX}{vs ws:LVl}{Q:VSx}(ht:IsTup s.heap t vs.toArray)(hb:IsTup s.heap b ws.toArray)(hv:vs≠[])(h1:ws=[]->Q (.ref t) s)(h2:ws≠[]->Q (.ref s.heap.objs.size) { s with heap:=s.heap.push { cls:=.type "tuple",data:=.seq (vs++ws).toArray } })(hsz:vs.length+ws.length<=sizeLine):wpAny (model prog w) A (binaryOp .Add (.ref t) (.ref b)) Q E s:=by
 have⟨⟨cls,dd,data,sl⟩,ho,hc,n,hd⟩:=id ht;have⟨⟨cls2,dd2,data2,sl2⟩,ho2,hc2,n2,hd2⟩:=id hb;simp only at hc hd hc2 hd2;subst hc hd hc2 hd2;have e:vs.toArray++ws.toArray=(vs++ws).toArray:=by simp
 by_cases hw:ws=[]
 ·exact p6 ⟨_,ho,rfl⟩ ⟨_,ho2,rfl⟩ bh seq_tuple_add nO nL (nH _ _)
   (tuple_addW1 t b vs.toArray ws.toArray n n2 dd dd2 sl sl2 (by simpa using hv) (by simp[hw])) ⟨ho,ho2,h1 hw⟩
 ·refine p6 ⟨_,ho,rfl⟩ ⟨_,ho2,rfl⟩ bh seq_tuple_add nO nL (nH _ _)
   (tuple_addW2 t b vs.toArray ws.toArray n n2 dd dd2 sl sl2 (by simpa using hv) (by simpa using hw) (by rw[qF,qF];exact hsz)) ⟨ho,ho2,?_⟩
  rw[e];exact h2 hw
def sIx(n d:Nat):Option Int->Nat
 |none=>d
 |some v=>if v<0 then (v+(n:Int)).toNat else min v.toNat n
def zhf(n d:Nat):sIx n d none=d:=rfl
def zbJ(n d k:Nat):sIx n d (some (k:Int))=min k n:=by
 show(if (k:Int)<0 then ((k:Int)+(n:Int)).toNat else min (k:Int).toNat n)=min k n
 rw[qo (by omega),kf]
end
end HT
namespace L2
open PySem PySem.Spec PyProof.Rows
abbrev TO:=St->Hp->(Option Int->Hp->Prop)->Prop
def PO(X:Cx)(e:Option Expr)(t:TO):Prop:=∀(pins:PNx)(s:ShX)(σ:St)(H:Hp)(Q:Option Int->Hp->Prop),Inv X pins σ H s->t σ H Q->
  wpAny (model X.prog X.w) X.A (evalPart e X.env) (λu s'=>∃o H',Inv X pins σ H' s'/\IsPart u o/\Q o H') X.xe s
def zkg:TO:=λ_ H Q=>Q none H
def zm7(t:TE):TO:=λσ H Q=>t σ H λx H1=>∃i,x=.int i/\Q (some i) H1
def intsAre_of{ns:List Int}:∀{us:LVl},Vals (ns.map V.int) us->IntsAre us ns:=by
 induction ns with
 |nil=>intro us r;rw[List.map_nil] at r;cases r;exact .nil
 |cons n ns ih=>
  intro us r;rw[gI] at r;cases r with
  |cons r1 r2=>
   have⟨t,e⟩:=r1;subst e;exact .cons n t (ih r2)
section
variable{X:Cx}{e:Expr}{te:TE}{lo hi:Option Expr}{tl th:TO}{pos p2:Pos}
def zjb:PO X none zkg:=by
 intro pins s σ H Q I h;rw[evalPart_none];exact qU ⟨none,H,I,.none,h⟩
def zj9(h:PE X e te):PO X (some e) (zm7 te):=by
 intro pins s σ H Q I hw;rw[evalPart_some];refine thn (h pins s σ H _ I hw) λu s1 ⟨x,H1,I1,r1,q1⟩=>?_
 obtain⟨i,rfl,q⟩:=q1;obtain⟨t,rfl⟩:=r1;exact⟨some i,H1,I1,.int i t,q⟩
def SlR(X:Cx)(r:V->Option Int->Option Int->Hp->VK->Prop):Prop:=∀(pins:PNx)(s:ShX)(σ:St)(H:Hp)(x:V)(v vl vu:Value)(lo hi:Option Int)(sl:AdX)(Q:VK),Inv X pins σ H s->RelV x v->s.heap.IsSliceOf sl vl vu .none->IsPart vl lo->IsPart vu hi->r x lo hi H Q->
  ∃T id,typeLookup (.type T) "__getitem__"=pure (some (.builtin id))/\s.TypeIs v T/\wpAny (model X.prog X.w) X.A (getItem v (.ref sl)) (EP X pins σ Q) X.xe s
def tSl(r:V->Option Int->Option Int->Hp->VK->Prop)(te:TE)(tl th:TO):TE:=λσ H Q=>te σ H λx H1=>tl σ H1 λl H2=>th σ H2 λu H3=>r x l u H3 Q
def zcx{r:V->Option Int->Option Int->Hp->VK->Prop}(hr:SlR X r)(he:PE X e te)(hl:PO X lo tl)(hu:PO X hi th):PE X (.Subscript e (.Slice lo hi none p2) pos) (tSl r te tl th):=by
 intro pins s σ H Q I h;refine Subscript_ (thn (he pins s σ H _ I h) λv s1 ⟨x,H1,I1,r1,q1⟩=>?_);refine wpAny_Slice (thn (hl pins s1 σ H1 _ I1 q1) λvl s2 ⟨l,H2,I2,pl,q2⟩=>thn (hu pins s2 σ H2 _ I2 q2) λvu s3 ⟨u,H3,I3,pu,q3⟩=>?_);rw[evalPart_none];refine qU ?_;have I4:Inv X pins σ H3 { s3 with heap:=s3.heap.push { cls:=.type "slice",data:=.fields #[vl,vu,.none] } }:=I3.kept (t':=s3.toks) λb ob q=>qm _ q
 obtain⟨T,id,hT,ht,hg⟩:=hr pins { s3 with heap:=s3.heap.push { cls:=.type "slice",data:=.fields #[vl,vu,.none] } } σ H3 x v vl vu l u s3.heap.objs.size Q I4 r1 (Heap.IsSliceOf.new ..) pl pu q3;show wpAny (model X.prog X.w) X.A (subscriptTail e (.Slice lo hi none p2) v (.ref s3.heap.objs.size)) (EP X pins σ Q) X.xe { s3 with heap:=s3.heap.push { cls:=.type "slice",data:=.fields #[vl,vu,.none] } }
 exact tail_any (ops:=[.ref s3.heap.objs.size,v]) ht hT hg (by with_unfolding_all rfl)
def zgu(xs:List V)(lo hi:Option Int):List V:=(xs.drop (HT.sIx xs.length 0 lo)).take (HT.sIx xs.length xs.length hi - HT.sIx xs.length 0 lo)
def zdU(xs:List V)(lo hi:Option Int):(zgu xs lo hi).length<=xs.length:=by
 unfold zgu;rw[kD,pQ];omega
def Vals.YD{xs:List V}{us:LVl}(r:Vals xs us):us=[]↔xs=[]:=by
 cases r with
 |nil=>simp
 |cons _ _=>simp
end
def ixN(n:Nat)(i:Int):Option Nat:=if 0<=i then (if i<n then some i.toNat else none) else if -(n:Int)<=i then some (i+n).toNat else none
def atI{α:Type}(xs:List α)(i:Int):Option α:=(ixN xs.length i).bind λj=>xs[j]?
def zf3{n:Nat}{i:Int}{j:Nat}(h:ixN n i=some j):seqIndex? i n=some j/\j<n/\-(n:Int)<=i/\i<n:=by
 unfold ixN at h;by_cases h0:0<=i
 ·rw[qj h0] at h;by_cases h1:i<n
  ·rw[qj h1] at h;have e:i.toNat=j:=kb h;exact⟨by rw[seqIndex_of h0 h1,e],by omega,by omega,h1⟩
  ·rw[qo h1] at h;cases h
 ·rw[qo h0] at h;by_cases h1:-(n:Int)<=i
  ·rw[qj h1] at h;have e:(i+n).toNat=j:=kb h;exact⟨by rw[seqIndex_neg (by omega) h1,e],by omega,h1,by omega⟩
  ·rw[qo h1] at h;cases h
def zfi{α:Type}{xs:List α}{i:Int}{v:α}(h:atI xs i=some v):∃j,seqIndex? i xs.length=some j/\xs[j]?=some v/\j<xs.length/\-(xs.length:Int)<=i/\i<xs.length:=by
 unfold atI at h;cases e:ixN xs.length i with
 |none=>rw[e] at h;cases h
 |some j=>
  rw[e] at h;have⟨h1,h2,h3,h4⟩:=zf3 e;exact⟨j,h1,h,h2,h3,h4⟩
def Vf{α:Type}{xs:List α}{j:Nat}{v:α}(h:xs[j]?=some v):atI xs (j:Int)=some v:=by
 have hj:j<xs.length:=(qg.mp h).1;have e:ixN xs.length (j:Int)=some j:=by
  unfold ixN;rw[qj (by omega),qj (by omega)];simp
 unfold atI;rw[e];exact h
def zbR(b:Expr):Prop:=∀o i,subscripted b false o i=operate [o,i] (getItem o i)
def IxR(X:Cx)(r:R2):Prop:=∀(value slice:Expr)(pins:PNx)(s:ShX)(σ:St)(H:Hp)(x y:V)(v u:Value)(Q:VK),Inv X pins σ H s->RelV x v->RelV y u->r x y H Q->
  subscripted slice false v u=operate [v,u] (getItem v u)->wpAny (model X.prog X.w) X.A (subscriptTail value slice v u) (EP X pins σ Q) X.xe s
def MtR(X:Cx)(id:String)(r:V->List V->Hp->VK->Prop):Prop:=∀(pins:PNx)(s:ShX)(σ:St)(H:Hp)(x:V)(xs:List V)(v:Value)(us:LVl)(Q:VK),Inv X pins σ H s->RelV x v->Vals xs us->r x xs H Q->
  wpAny (model X.prog X.w) X.A (call (.builtin id) (v::us)) (EP X pins σ Q) X.xe s
section
variable{X:Cx}{a b:Expr}{ta tb:TE}{pos:Pos}
def IxR.or{r r':R2}(h:IxR X r)(h':IxR X r'):IxR X (λx y H Q=>r x y H Q\/r' x y H Q):=by
 intro value slice pins s σ H x y v u Q I rx ry q hs;rcases q with q|q
 ·exact h value slice pins s σ H x y v u Q I rx ry q hs
 ·exact h' value slice pins s σ H x y v u Q I rx ry q hs
def zk4{r:R2}(hr:IxR X r)(ha:PE X a ta)(hb:PE X b tb)(hs:zbR b):PE X (.Subscript a b pos) (tOp r ta tb):=by
 intro pins s σ H Q I h;exact Subscript_ (zml ha hb I h λv u s2 x y H2 I2 rx ry q=>hr a b pins s2 σ H2 x y v u Q I2 rx ry q (hs _ _))
def zm4(K:FRx):R2:=λx y H Q=>∃p xs i v,x=.ref p/\y=.int i/\SqL K H p xs/\atI xs i=some v/\Q v H
def znf(K:FRx):R2:=λx y H Q=>∃p xs i v,x=.ref p/\y=.int i/\SqT K H p xs/\atI xs i=some v/\Q v H
def zki:IxR X (zm4 X.K):=by
 intro value slice pins s σ H x y v u Q I rx ry h hs;obtain⟨p,xs,i,z,rfl,rfl,hq,he,q⟩:=h;cases rx;obtain⟨t,rfl⟩:=ry;have⟨its,r,pl,hz⟩:=I.list hq;have⟨j,h1,h2,h3,h4,h5⟩:=zfi he;have⟨w,ew,rw'⟩:=r.get h2;have hl:=r.length;have hn:=WY
 have fin:EP X pins σ Q w s:=⟨z,H,I,rw',q⟩;by_cases h0:0<=i
 ·have hj:i.toNat=j:=by
   rw[seqIndex_of h0 h5] at h1;exact kb h1
  exact item_listR pl.isList h0 (by omega) (by rw[hj];simpa using ew) fin hs
 ·have hj:(i+(its.toArray.size:Int)).toNat=j:=by
   rw[seqIndex_neg (by omega) h4] at h1;rw[qF,<-hl];exact kb h1
  exact subscriptTail_builtinR (x:=w) pl.isList.typeIs slot_list_getitem.lookup
   (wpAny_getItem_list_neg (Q:=λr s'=>r=w/\EP X pins σ Q r s') pl.isList (by omega) (by rw[qF]<;>omega) (by omega) (by rw[hj];simpa using ew) ⟨rfl,fin⟩) hs
def zlL:IxR X (znf X.K):=by
 intro value slice pins s σ H x y v u Q I rx ry h hs;obtain⟨p,xs,i,z,rfl,rfl,hq,he,q⟩:=h;cases rx;obtain⟨t,rfl⟩:=ry;have⟨its,r,pl,hz⟩:=I.tuple hq;have⟨j,h1,h2,h3,h4,h5⟩:=zfi he;have⟨w,ew,rw'⟩:=r.get h2;have hl:=r.length;have hn:=WY
 have fin:EP X pins σ Q w s:=⟨z,H,I,rw',q⟩;exact subscriptTail_builtinR (x:=w) pl.typeIs slot_tuple_getitem.lookup
  (getItem_tuple (j:=j) (Q:=λr s'=>r=w/\EP X pins σ Q r s') pl (by omega) (by omega) (by rw[qF,<-hl];exact h1) (by simpa using ew) ⟨rfl,fin⟩) hs
def zfb(its:LVl)(n j:Nat)(u:Value):Obj.mapSeq (·.setIfInBounds j u) { cls:=.type "list",data:=.seq its.toArray n }={ cls:=.type "list",data:=.seq (its.set j u).toArray n }:=by
 simp[Obj.mapSeq]
def Inv.lst{pins:PNx}{σ:St}{H:Hp}{s:ShX}{p:AdX}{xs:List V}(I:Inv X pins σ H s)(h:H p=some (.lst xs)):∃(its:LVl)(n:Nat),Vals xs its/\s.heap.get? p=some { cls:=.type "list",data:=.seq its.toArray n }/\xs.length<=sizeLine:=by
 have⟨z,its,n,r,e⟩:=I.hok p _ h;exact⟨its,n,r,e,z⟩
def Inv.zlr{pins:PNx}{σ:St}{H:Hp}{s:ShX}{p:AdX}{xs ys:List V}{its its':LVl}{n n':Nat}{f:Obj->Obj}(I:Inv X pins σ H s)(h:H p=some (.lst xs))(ho:s.heap.get? p=some { cls:=.type "list",data:=.seq its.toArray n })(hf:f { cls:=.type "list",data:=.seq its.toArray n }={ cls:=.type "list",data:=.seq its'.toArray n' })(r:Vals ys its')(hz:ys.length<=sizeLine)(t:Nat):Inv X pins σ (upd H p (.lst ys)) { s with heap:=s.heap.update p f,toks:=t }:=by
 have e:(s.heap.update p f).get? p=some { cls:=.type "list",data:=.seq its'.toArray n' }:=by
  rw[Heap.get?_update_self f ho (by rw[hf]<;>rfl),hf]
 refine I.write (x:=p) (e:=p) (by rw[h];trivial) (.inl rfl) (λb u hb q=>(Heap.get?_update_other _ _ (gG hb)).trans q) ⟨_,e⟩ ?_;exact⟨hz,its',n',r,e⟩
def znl:V->V->V->Hp->(Hp->Prop)->Prop:=λo i v H Q=>∃p xs k j,o=.ref p/\i=.int k/\H p=some (.lst xs)/\ixN xs.length k=some j/\Q (upd H p (.lst (xs.set j v)))
def set_list:zm6 X znl:=by
 intro pins s σ H o i v ov iv u Q I ro ri rv h;obtain⟨p,xs,k,j,rfl,rfl,hp,hj,q⟩:=h;cases ro;obtain⟨t,rfl⟩:=ri;have⟨its,n,r,ho,hz⟩:=I.lst hp;have⟨h1,h2,h3,h4⟩:=zf3 hj;have hl:=r.length;have hn:=WY
 have I':Inv X pins σ (upd H p (.lst (xs.set j v))) { s with heap:=s.heap.update p (Obj.mapSeq (·.setIfInBounds j u)) }:=I.zlr hp ho (zfb its n j u) (r.set rv j) (by rw[k7];exact hz) s.toks;by_cases h0:0<=k
 ·have hk:k.toNat=j:=by
   rw[seqIndex_of h0 h4] at h1;exact kb h1
  exact W.ki_setAt ho h0 (by omega) (by rw[qF,<-hl];exact h4) (by rw[hk];exact⟨_,I',q⟩)
 ·have hk:(k+(its.toArray.size:Int)).toNat=j:=by
   rw[seqIndex_neg (by omega) h3] at h1;rw[qF,<-hl];exact kb h1
  exact W.ki_setBack ho (by omega) (by rw[qF,<-hl];exact h3) (by omega) (by rw[hk];exact⟨_,I',q⟩)
def zbr(lo hi:Option Int)(n:Nat):(sliceBounds lo hi none n).1=((HT.sIx n 0 lo:Nat):Int)/\(sliceBounds lo hi none n).2.1=((HT.sIx n n hi:Nat):Int)/\(sliceBounds lo hi none n).2.2=1:=by
 refine⟨?_,?_,rfl⟩
 ·cases lo with
  |none=>simp[sliceBounds,HT.sIx]
  |some i=>
   simp only [sliceBounds,HT.sIx,Option.getD_none,show(1:Int)>0 by decide,pJ];by_cases h:i<0
   ·simp only [h,pJ]<;>omega
   ·simp only [h,if_false]<;>omega
 ·cases hi with
  |none=>simp[sliceBounds,HT.sIx]
  |some i=>
   simp only [sliceBounds,HT.sIx,Option.getD_none,show(1:Int)>0 by decide,pJ];by_cases h:i<0
   ·simp only [h,pJ]<;>omega
   ·simp only [h,if_false]<;>omega
def zav(its:LVl)(lo hi:Option Int):slicePick its.toArray lo hi none=((its.drop (HT.sIx its.length 0 lo)).take (HT.sIx its.length its.length hi - HT.sIx its.length 0 lo)).toArray:=by
 have⟨h1,h2,h3⟩:=zbr lo hi its.toArray.size;unfold slicePick;rw[h1,h2,h3];simp only [sliceRange_one,pick_run,qF]<;>rfl
def znH(K:FRx):V->Option Int->Option Int->Hp->VK->Prop:=λx lo hi H Q=>∃a xs,x=.ref a/\SqL K H a xs/\∀p,H p=none->Q (.ref p) (upd H p (.lst (zgu xs lo hi)))
def zf5:SlR X (znH X.K):=by
 intro pins s σ H x v vl vu lo hi sl Q I rx hs pl pu h;obtain⟨a,xs,rfl,hx,q⟩:=h;cases rx;have⟨its,r,ht,hz⟩:=I.list hx;have hlen:=r.length;refine⟨"list",_,slot_list_getitem.lookup,ht.isList.typeIs,?_⟩;refine wpAny_getItem_list_slice ht.isList hs pl pu .none (by simp) ?_ (by rw[qF]<;>omega);rw[zav,<-hlen];refine⟨.ref s.heap.objs.size,_,I.laid (t':=s.toks) (o:=.lst (zgu xs lo hi)) (λb ob q=>qm _ q) (qf _) ?_,rfl,q _ (I.hok.fresh (qf _))⟩;exact⟨qw (zdU xs lo hi) hz,_,0,(r.drop (HT.sIx xs.length 0 lo)).take (HT.sIx xs.length xs.length hi - HT.sIx xs.length 0 lo),qJ _ rfl⟩
def zy:vF X (.builtin "len") (λxs H Q=>∃p ys,xs=[.ref p]/\(SqL X.K H p ys\/SqT X.K H p ys)/\Q (.int ys.length) H):=by
 intro pins s σ H xs us Q I r h;obtain⟨p,ys,rfl,hq,q⟩:=h;obtain⟨u,rfl,rx⟩:=vals1 r;cases rx;have hn:=WY;rcases hq with hq|hq
 ·have⟨its,r',pl,hz⟩:=I.list hq;have hlen:=r'.length;exact Calls.call_len_list pl.isList (by simp only [qF]<;>omega) ⟨.int ys.length,H,I.tok _,⟨s.toks+1,by rw[qF,hlen]⟩,q⟩
 ·have⟨its,r',pl,hz⟩:=I.tuple hq;have hlen:=r'.length;exact len_tuple pl (by simp only [qF]<;>omega) ⟨.int ys.length,H,I.tok _,⟨s.toks+1,by rw[qF,hlen]⟩,q⟩
def ji:vF X (.type "list") (λxs H Q=>∃p ys,xs=[.ref p]/\(SqL X.K H p ys\/SqT X.K H p ys)/\∀l,H l=none->Q (.ref l) (upd H l (.lst ys))):=by
 intro pins s σ H xs us Q I r h;obtain⟨p,ys,rfl,hq,q⟩:=h;obtain⟨u,rfl,rx⟩:=vals1 r;cases rx;have fin:∀(its:LVl),Vals ys its->ys.length<=sizeLine->∀(h':Heap)(c':Nat),(∀b o',s.heap.get? b=some o'->h'.get? b=some o')->
   h'.get? s.heap.objs.size=some { cls:=.type "list",dict:=none,data:=.seq its.toArray c',slots:=#[] }->EP X pins σ Q (.ref s.heap.objs.size) { s with heap:=h' }:=λits r' hz h' c' kp e=>
  ⟨.ref s.heap.objs.size,_,I.laid (t':=s.toks) kp (qf _) (show vv X.prog X.w _ h' _ (.lst ys) from⟨hz,its,c',r',e⟩),rfl,q _ (I.hok.fresh (qf _))⟩
 rcases hq with hq|hq
 ·have⟨its,r',pl,hz⟩:=I.list hq;have hlen:=r'.length;have⟨o,ho,hc,n,hd⟩:=pl.isList
  exact call_list_seq p (.inl rfl) ho hc hd (λh' c' kp e=>fin its r' hz h' c' kp e) (by simp only [qF]<;>omega)
 ·have⟨its,r',pl,hz⟩:=I.tuple hq;have hlen:=r'.length;have⟨o,ho,hc,n,hd⟩:=pl
  exact call_list_seq p (.inr rfl) ho hc hd (λh' c' kp e=>fin its r' hz h' c' kp e) (by simp only [qF]<;>omega)
def zx:vF X (.type "tuple") (λxs H Q=>∃p ys,xs=[.ref p]/\((SqL X.K H p ys/\∀l,H l=none->Q (.ref l) (upd H l (.tup ys)))\/(SqT X.K H p ys/\Q (.ref p) H))):=by
 intro pins s σ H xs us Q I r h;obtain⟨p,ys,rfl,h⟩:=h;obtain⟨u,rfl,rx⟩:=vals1 r;cases rx;rcases h with⟨hq,q⟩|⟨hq,q⟩
 ·have⟨its,r',pl,hz⟩:=I.list hq;have hlen:=r'.length;refine call_tuple_list pl.isList (λh' kp=>?_) (by simp only [qF]<;>omega);have I1:Inv X pins σ H { s with heap:=h' }:=I.kept (t':=s.toks) kp
  have I2:Inv X pins σ (upd H h'.objs.size (.tup ys)) { s with heap:=h'.push { cls:=.type "tuple",data:=.seq its.toArray } }:=I1.laid (t':=s.toks) (λb o e=>qm _ e) (qf _) (show vv X.prog X.w _ _ _ (.tup ys) from⟨hz,its,r',IsTup.new _ _⟩);exact⟨.ref h'.objs.size,_,I2,rfl,q _ (I1.hok.fresh (qf _))⟩
 ·have⟨its,r',pl,hz⟩:=I.tuple hq;exact call_tuple_same pl ⟨.ref p,H,I,rfl,q⟩
def tyV(K:FRx)(T:String)(x:V)(H:Hp):Prop:=match x with
 | .str _=>T="str"
 | .int _=>T="int"
 | .ref p=>(T="list"/\∃xs,SqL K H p xs)\/(T="tuple"/\∃o,K.lookup p=some o/\o.cls=.type "tuple"/\o.dict=none)\/
   (T="dict"/\((∃kvs,H p=some (.dK kvs))\/∃kvs,H p=some (.dT kvs)))\/(T="set"/\∃S n,H p=some (.set S n))
 |_=>False
def zmL{pins:PNx}{σ:St}{H:Hp}{s:ShX}{T:String}{x:V}{v:Value}(I:Inv X pins σ H s)(r:RelV x v)(ty:tyV X.K T x H):s.TypeIs v T/\∀a,v=.ref a->∃ob,s.heap.get? a=some ob/\ob.dict=none:=by
 cases x with
 |str z=>
  obtain⟨t,rfl⟩:=r;cases (show T="str" from ty);exact⟨typeIs_str s z t,λ_ e=>nomatch e⟩
 |int i=>
  obtain⟨t,rfl⟩:=r;cases (show T="int" from ty);exact⟨pV s i t,λ_ e=>nomatch e⟩
 |ref p=>
  cases r;rcases ty with⟨rfl,xs,hq⟩|⟨rfl,o,hk,hc,hd⟩|⟨rfl,hk⟩|⟨rfl,S,n,hk⟩
  ·have⟨its,_,pl,_⟩:=I.list hq;refine⟨pl.isList.typeIs,λa e=>?_⟩;cases e;have⟨o,n,e,c,hd,_⟩:=pl;exact⟨o,e,hd⟩
  ·refine⟨⟨o,I.kIn p o hk,hc⟩,λa e=>?_⟩;cases e;exact⟨o,I.kIn _ o hk,hd⟩
  ·have z:∃o,s.heap.get? p=some o/\o.ExactDict:=by
    rcases hk with⟨kvs,hk⟩|⟨kvs,hk⟩
    ·have⟨_,_,_,_,o,_,_,e,ex,_⟩:=I.hok p _ hk;exact⟨o,e,ex⟩
    ·have⟨_,_,_,_,o,_,_,e,ex,_⟩:=I.hok p _ hk;exact⟨o,e,ex⟩
   have⟨o,e,ex⟩:=z;refine⟨⟨o,e,ex.1⟩,λa e2=>?_⟩;cases e2;exact⟨o,e,ex.2.1⟩
  ·have⟨o,_,_,_,e,ex,_⟩:=I.hok p _ hk;refine⟨⟨o,e,ex.1⟩,λa e2=>?_⟩;cases e2;exact⟨o,e,ex.2.1⟩
 |_=>exact False.elim ty
def tBM(K:FRx)(T:String)(r:V->List V->Hp->VK->Prop)(to:TE)(t:TA):TE:=λσ H Q=>to σ H λx H1=>tyV K T x H1/\t σ H1 λxs H2=>r x xs H2 Q
variable{o e:Expr}{es:List Expr}{to:TE}{t:TA}{name:Str}{apos cpos:Pos}{T id:String}{r:V->List V->Hp->VK->Prop}
def Vk(pa:PlainAttrs T)(slot:Slot T name id)(hty:typeOf (.builtin id)=pure (.type "method_descriptor"))(hm:MtR X id r)(ho:PE X o to)(ha:PA X (e::es) t)(hbase:attributeBase o name X.env (eval o X.env)=eval o X.env:=by rfl)(hfew:((backTo cpos (starEach (e::es) X.env)).all (λx=>!x.1)&&(backToKw cpos (keywordEach [] X.env)).all (λx=>x.1.isSome)
   &&decide ((e::es).length+([]:List Keyword).length+(if ([]:List Keyword).isEmpty then 0 else 1)<30))=true:=by rfl)(hline:(apos.endLine==cpos.line)=true:=by rfl)(hs:SEx X e es:=by rfl)(hplain:(backTo cpos (starEach es X.env)).any (·.1)=false:=by rfl):PE X (.Call (.Attribute o name apos) (e::es) [] cpos) (tBM X.K T r to t):=by
 intro pins s σ H Q I h;refine wpAny_Call_method_late hbase hfew hline rfl (thn (ho pins s σ H _ I h) λv s1 ⟨x,H1,I1,r1,ty,q1⟩=>?_);have⟨h1,h2⟩:=zmL I1 r1 ty;refine⟨T,id,pa,slot,hty,h1,h2,?_⟩;have hA:=ha cpos pins s1 σ H1 _ I1 q1;rw[hs] at hA ⊢;refine Calls.callWith_builtin (by show(false || (backTo cpos (starEach es X.env)).any (·.1))=false;rw[hplain]<;>rfl) (Calls.evalArgs_plain ?_);exact thn hA λus s2 ⟨vs,H2,I2,r2,q2⟩=>hm pins s2 σ H2 x vs v us Q I2 r1 r2 q2
end
def MtM(X:Cx)(id:String)(r:V->List V->Hp->VK->Prop):Prop:=∀(pins:PNx)(s:ShX)(σ:St)(H:Hp)(x:V)(xs:List V)(v:Value)(us:LVl)(Q:VK),Inv X pins σ H s->RelV x v->Vals xs us->r x xs H Q->
  wpAny (model X.prog X.w) X.A (call (.builtin id) (v::us)) (EP X pins σ Q) X.xe s
theorem Vals.one:∀{x:V} {us:LVl},Vals [x] us->∃u,us=[u]/\RelV x u
 |_,_,.cons r .nil=>⟨_,rfl,r⟩
theorem Vals.two:∀{x y:V} {us:LVl},Vals [x,y] us->∃u v,us=[u,v]/\RelV x u/\RelV y v
 |_,_,_,.cons r (.cons q .nil)=>⟨_,_,rfl,r,q⟩
theorem Vals.eraseIdx:∀{xs:List V} {us:LVl} (i:Nat),Vals xs us->Vals (xs.eraseIdx i) (us.eraseIdx i)
 |_,_,_,.nil=>.nil
 |_,_,0,.cons _ t=>t
 |_,_,i+1,.cons r t=>.cons r (Vals.eraseIdx i t)
theorem Vals.rep{xs:List V}{us:LVl}(h:Vals xs us):∀k:Nat,Vals (List.replicate k xs).flatten (List.replicate k us).flatten
 |0=>.nil
 |k+1=>by
  rw[gD,gD,hZ,hZ];exact Vals.append h (Vals.rep h k)
theorem zaC{α:Type}:∀(l:List α)(i:Nat),(l.eraseIdx i).length<=l.length
 |[],_=>qf _
 |_::_,0=>mY _
 |_::r,i+1=>pO (zaC r i)
theorem foldl_rep(its:LVl):∀(k:Nat)(acc:LVl),
  List.foldl (λx1 x2=>x1++x2) acc.toArray (List.replicate k its.toArray)=(acc++(List.replicate k its).flatten).toArray
 |0,acc=>by simp
 |k+1,acc=>by
  have e:acc.toArray++its.toArray=(acc++its).toArray:=by simp
  have e2:(acc++its)++(List.replicate k its).flatten=acc++(List.replicate (k+1) its).flatten:=by
   rw[gD,hZ,gU]
  rw[<-e2,<-foldl_rep its k (acc++its),<-e,gD,List.foldl_cons]
section
variable{X:Cx}{pins:PNx}{σ:St}{H:Hp}{s:ShX}{l b:AdX}{xs ys zs:List V}
def Inv.lset{its its':LVl}{n:Nat}{f:Array Value->Array Value}{t':Nat}(I:Inv X pins σ H s)(hH:H l=some (.lst xs))(e:s.heap.get? l=some { cls:=.type "list",data:=.seq its.toArray n })(hf:f its.toArray=its'.toArray)(hv:Vals ys its')(hz:ys.length<=sizeLine):Inv X pins σ (upd H l (.lst ys)) { s with heap:=s.heap.update l (Obj.mapSeq f),toks:=t' }:=by
 have q:=PySem.IsL.update e f;rw[hf] at q;refine I.write (x:=l) (e:=l) (by rw[hH];exact trivial) (.inl rfl) (λb' u hb hu=>(Heap.get?_update_other s.heap (Obj.mapSeq f) (gG hb)).trans hu) ⟨_,q⟩ ?_;exact⟨hz,its',_,hv,q⟩
def Inv.lnew{its:LVl}{t':Nat}(I:Inv X pins σ H s)(hv:Vals ys its)(hz:ys.length<=sizeLine):Inv X pins σ (upd H s.heap.objs.size (.lst ys)) { s with heap:=s.heap.push { cls:=.type "list",data:=.seq its.toArray },toks:=t' }:=I.laid (λ_ _ q=>qm _ q) (qf _) ⟨hz,its,0,hv,qJ _ rfl⟩
def Inv.fresh(I:Inv X pins σ H s):H s.heap.objs.size=none:=I.hok.fresh (qf _)
def Inv.zbK(I:Inv X pins σ H s)(hH:H l=some (.lst xs)):xs.length<=sizeLine/\∃(its:LVl)(n:Nat),Vals xs its/\xs.length=its.length/\s.heap.get? l=some { cls:=.type "list",data:=.seq its.toArray n }:=by
 have⟨z,its,n,r,e⟩:=I.hok l _ hH;exact⟨z,its,n,r,r.length,e⟩
def ZJ{n:Nat}(h:n<=sizeLine):Builtin.List.listTooLong n=false:=by
 unfold Builtin.List.listTooLong;exact qM (by omega)
end
section
variable{X:Cx}
def zjp:V->List V->Hp->VK->Prop:=λx vs H Q=>∃l xs y,x=.ref l/\vs=[y]/\H l=some (.lst xs)/\xs.length<sizeLine/\Q .non (upd H l (.lst (xs++[y])))
def uD:MtM X "list.append" zjp:=by
 intro pins s σ H x vs v us Q I rx rv h;obtain⟨l,xs,y,rfl,rfl,hH,hz,q⟩:=h;cases rx;obtain⟨u,rfl,ru⟩:=rv.one;have⟨z,its,n,r,hl,e⟩:=I.zbK hH;refine mf F.slot_list_append ⟨_,e,rfl⟩ F.entry_list_append (F.args_list_append_2 _ _) (PySem.list_append l its.toArray n u (by rw[qF];omega)) ⟨e,?_⟩;refine⟨.non,_,I.lset (its':=its++[u]) hH e (by simp) (r.append (.cons ru .nil)) ?_,rfl,q⟩;rw[qy,kI];omega
def zjn:V->List V->Hp->VK->Prop:=λx vs H Q=>∃l b xs zs,x=.ref l/\vs=[.ref b]/\H l=some (.lst xs)/\H b=some (.lst zs)/\xs.length+zs.length<=sizeLine/\Q .non (upd H l (.lst (xs++zs)))
def zmN:MtM X "list.extend" zjn:=by
 intro pins s σ H x vs v us Q I rx rv h;obtain⟨l,b,xs,zs,rfl,rfl,hH,hB,hz,q⟩:=h;cases rx;obtain⟨u,rfl,ru⟩:=rv.one;cases ru;have⟨z,its,n,r,hl,e⟩:=I.zbK hH;have⟨z2,its2,n2,r2,hl2,e2⟩:=I.zbK hB;have hsz:its.toArray.size+its2.toArray.size<=sizeLine:=by rw[qF,qF];omega
 have hlong:¬(!its.toArray.isEmpty&&Builtin.List.listTooLong (its.toArray.size+its2.toArray.size))=true:=by
  rw[ZJ hsz,bf];exact qL
 refine mf F.slot_list_extend ⟨_,e,rfl⟩ F.entry_list_extend (F.args_list_extend_2 _ _)
  (AutoSeq1.list_extend_list_list_0 l its.toArray n b its2.toArray n2 hlong (by rw[qF];omega) (by omega)) ⟨e,e2,?_⟩
 refine⟨.non,_,I.lset (its':=its++its2) hH e (by simp) (r.append r2) ?_,rfl,q⟩;rw[qy];omega
def zmt:V->List V->Hp->VK->Prop:=λx vs H Q=>∃l xs i k y,x=.ref l/\vs=[.int i]/\H l=some (.lst xs)/\-(2 ^ 63)<=i/\i<2 ^ 63/\seqIndex? i xs.length=some k/\xs[k]?=some y/\Q y (upd H l (.lst (xs.eraseIdx k)))
def Vg:MtM X "list.pop" zmt:=by
 intro pins s σ H x vs v us Q I rx rv h;obtain⟨l,xs,i,k,y,rfl,rfl,hH,h1,h2,hk,hy,q⟩:=h;cases rx;obtain⟨u,rfl,ru⟩:=rv.one;obtain⟨t,rfl⟩:=ru;have⟨z,its,n,r,hl,e⟩:=I.zbK hH;have⟨w,hw,rw'⟩:=r.get hy;refine mf F.slot_list_pop ⟨_,e,rfl⟩ F.entry_list_pop (F.args_list_pop_2 _ _)
  (MeetsSeq.list_pop_at l its.toArray n i t k w (fitsIndex_both h1 h2) (by rw[qF,<-hl];exact hk) (by rw[<-Array.getElem?_toList];exact hw) (by rw[qF];omega)) ⟨e,?_⟩
 refine⟨y,_,I.lset (its':=its.eraseIdx k) hH e ?_ (r.eraseIdx k) ?_,rw',q⟩
 ·show its.toArray.eraseIdxIfInBounds k=(its.eraseIdx k).toArray
  rw[List.eraseIdxIfInBounds_toArray]
 ·have:=zaC xs k;omega
def znM:R2:=λx y H Q=>∃l b xs zs,x=.ref l/\y=.ref b/\H l=some (.lst xs)/\H b=some (.lst zs)/\xs.length+zs.length<=sizeLine/\∀p,H p=none->Q (.ref p) (upd H p (.lst (xs++zs)))
def zlN:OpR X (binaryOp .Add) znM:=by
 intro pins s σ H x y v u Q I rx ry h;obtain⟨l,b,xs,zs,rfl,rfl,hH,hB,hz,q⟩:=h;cases rx;cases ry;have⟨z,its,n,r,hl,e⟩:=I.zbK hH;have⟨z2,its2,n2,r2,hl2,e2⟩:=I.zbK hB;refine PySem.P.add_list e e2 ?_ (by rw[qF,qF];omega);have ea:its.toArray++its2.toArray=(its++its2).toArray:=by simp
 rw[ea];exact⟨.ref _,_,I.lnew (t':=s.toks) (r.append r2) (by rw[qy];omega),rfl,q _ I.fresh⟩
def znG:R2:=λx y H Q=>∃l k xs,x=.ref l/\y=.int k/\H l=some (.lst xs)/\-(2 ^ 63)<=k/\k<2 ^ 63/\xs.length*k.toNat<=sizeLine/\
 ∀p,H p=none->Q (.ref p) (upd H p (.lst (List.replicate k.toNat xs).flatten))
def len_rep{α:Type}(xs:List α)(k:Nat):(List.replicate k xs).flatten.length=k*xs.length:=by
 induction k with
 |zero=>simp
 |succ k ih=>rw[gD,hZ,qy,ih,gH,nU]
def zik:OpR X (binaryOp .Mult) znG:=by
 intro pins s σ H x y v u Q I rx ry h;obtain⟨l,k,xs,rfl,rfl,hH,h1,h2,hz,q⟩:=h;cases rx;obtain⟨t,rfl⟩:=ry;have⟨z,its,n,r,hl,e⟩:=I.zbK hH;have hlen:its.toArray.size*k.toNat<=sizeLine:=by rw[qF,<-hl];exact hz
 have hcap:¬its.toArray.size*k.toNat>(2 ^ 63 - 1) / 8:=by
  have:(sizeLine:Nat)<=(2 ^ 63 - 1) / 8:=by decide
  omega
 have hfit:¬(!Builtin.List.listFitsIndex k)=true:=by
  rw[fitsIndex_both h1 h2];exact qL
 have hlong:¬Builtin.List.listTooLong (its.toArray.size*k.toNat)=true:=by
  rw[ZJ hlen];exact qL
 have hnew:List.foldl (λx1 x2=>x1++x2) #[] (List.replicate (if its.toArray.isEmpty=true then 0 else k.toNat) its.toArray)=(List.replicate k.toNat its).flatten.toArray:=by
  have f0:∀m:Nat,List.foldl (λx1 x2=>x1++x2) #[] (List.replicate m its.toArray)=(List.replicate m its).flatten.toArray:=λm=>by
   have:=foldl_rep its m [];rw[pX] at this;exact this
  rw[f0];cases its with
  |nil=>simp
  |cons a r'=>rw[qo (by simp)]
 refine wpAny_binaryOp_repeat_ref (T:="list") (U:="int") (by decide) ⟨_,e,rfl⟩ (λs'=>pV s' k t) noFill_list_mul F.fills_int_mul pE repeat_list F.slot_int_index.lookup
  (mf pE (pV s k t) F.entry_int_rmul (F.args_int_rmul_2 _ _) (int___rmul___int_list k t l its.toArray n)
   ⟨e,rfl,⟨_,e,rfl⟩,mf F.slot_list_mul ⟨_,e,rfl⟩ F.entry_list_mul (F.args_list_mul_2 _ _) (AutoListH.list___mul___list_int_3 l its.toArray n k t hfit hcap hlong) ⟨e,?_⟩⟩)
 rw[hnew];exact⟨.ref _,_,I.lnew (t':=s.toks) (r.rep k.toNat) (by rw[len_rep,mj];exact hz),rfl,q _ I.fresh⟩
end
end L2
namespace Att
open PySem PySem.W PySem.Calls PyProof.Rows
def Yu{P:Params}{h:Heap}:∀(ns:List Int)(vs:LVl),WellAll P h vs (ns.map WData.int)->IntsAre vs ns:=by
 intro ns;induction ns with
 |nil=>
  intro vs w;rw[List.map_nil] at w;cases w;exact .nil
 |cons n ns ih=>
  intro vs w;rw[gI] at w;cases w with
  |cons a b=>
   cases a;exact .cons _ _ (ih _ b)
def zha{l:OpenLaw}{n:Nat}(hn:l.most=some n){P:Params}{h:Heap}{args:List WData}{vals:LVl}(hpre:l.row.toRowW.claim.pre args=true)(hwl:WellAll P h vals args):∃a vs ns,vals=[Value.ref a]/\args=[WData.list (ns.map WData.int)]/\h.get? a=some { cls:=.type "list",data:=.seq vs.toArray }/\IntsAre vs ns/\ns.length<=n:=by
 have hsh:WShape.hasAll [] args [.list .int]=true:=(pre_splitW hpre).1;have hc:l.pre.holds [] { args:=args }=true:=(pre_splitW hpre).2
 obtain⟨d,r,rfl,h1,h2⟩:=hasAllW_cons hsh;obtain rfl:=hasAllW_nil h2;obtain⟨xs,rfl,h3⟩:=hasW_list h1;obtain⟨ns,rfl⟩:=items_int h3;have hlen:ns.length<=n:=by
  unfold OpenLaw.pre at hc;have h4:(WTm.not (.lt (.lit (.int (n:Int))) (.len (.arg 0)))).holds [] { args:=[.list (ns.map .int)] }=true:=by
   have h4:=(holds_andW hc).1;rw[hn] at h4;exact h4
  have h5:=condW_of h4 (w_not (w_lt w_lit (w_len_list (w_arg rfl))));rw[qe] at h5;refine km λq=>?_
  have q':(n:Int)<((ns.length:Nat):Int):=by omega
  first
   |(rw[qG q'] at h5;exact absurd h5 (by decide))
   |(simp at h5;omega)
 cases hwl with
 |cons w1 w2=>
  cases w2;cases w1 with
  |list ho hall=>exact⟨_,_,ns,rfl,rfl,ho,Yu ns _ hall,hlen⟩
def zgA(l:OpenLaw)(args:List WData):l.row.toRowW.claim.post args (.bool true) args=true:=postW_of (r:=l.row.toRowW) (X:=(true==true))
  (show WShape.has [] (.bool true) .bool=true by first |rfl|decide|simp[WShape.has,WShape.arms,WShape.armsAll])
  (show(WTm.eq .res (.lit (.bool true))).value [] { args:=args,res:=some (.bool true),after:=args }=some (.bool (true==true)) from w_eq_bool (w_res rfl) w_lit) rfl
def zc8{l:OpenLaw}{n:Nat}{q:Program}{loose:LSr}{XP:(Str->Option Value)->Heap->Prop}{YP:World->Heap->Prop}{d:DefRec}(hn:l.most=some n)(hdf:d.params.defaults=[])(call:∀(w:World)(s₀ s₁:ShX)(mg mb:Str->Option Value)(fa:AdX)(o:Obj)(pm cd doc:Value)(a:AdX)(vs:LVl)(ns:List Int),
   Ground q loose [] XP w s₀ mg mb s₁.heap->YP w s₁.heap->
   s₁.heap.get? fa=some o->o.data=.func (docDef d.name d.params d.body d.scope pm cd doc)->s₁.heap.CodeRec cd d.name->mg d.name=some (.ref fa)->
   s₁.heap.get? a=some { cls:=.type "list",data:=.seq vs.toArray }->IntsAre vs ns->ns.length<=n->s₁.gens=#[]->
   codeAny (model l.prog w) callerA (.call (.ref fa) ⟨[.ref a],[]⟩) (λr s'=>r=.ok (.ret (.bool true))/\OldK s₁.heap s'.heap/\s'.os=s₁.os/\AllBare s'.gens) s₁):WalkO q loose XP YP l.row.toRowW d [] (λf vs=>PySem.call f vs):=by
 intro w s₀ s₁ mg mb G Y fa o pm cd doc dV kV ho hd hcd hD hmg hg args vals as hpre hlay hrd hwl hlo;obtain rfl:dV=.none:=Dflts.none hD hdf;obtain rfl:kV=.none:=Dflts.noKw hD;obtain⟨a,vs,ns,rfl,rfl,hobj,hints,hlen⟩:=zha hn hpre hwl;refine enter_call (p7 (call w s₀ s₁ mg mb fa o pm cd doc a vs ns G Y ho (fd_plain hd) hcd hmg hobj hints hlen hg) λr s' hq=>?_);obtain⟨rfl,h2,h3,h4⟩:=hq;exact⟨.inl ⟨.bool true,.bool true,[],rfl,λ_=>rfl,.bool true,zgA l _,λ_=>⟨List.Pairwise.nil,λ_ hm=>(nomatch hm)⟩⟩,h2,h3,h4⟩
end Att
namespace L2
open PySem PySem.Spec PyProof.Rows
theorem za4:∀{vs:LVl} {ns:List Int},IntsAre vs ns->Vals (ns.map V.int) vs
 |_,_,.nil=>.nil
 |_,_,.cons n t h=>.cons ⟨t,rfl⟩ (za4 h)
def Only(H:Hp):Prop:=∀b,H b=none\/∃o xs,H b=some (.frz o (.lst xs))
def zib{P:Program}{w:World}{K:FRx}{mg mb:Str->Option Value}{CX:CXT}{k:Nat}{fa a:AdX}{fd:FuncData}{x:Str}{sp:Sp}{s₁:ShX}{vs:LVl}{ns:List Int}(KX:K.In s₁.heap)(hns:s₁.heap.Ns mainGlobals mg)(hb:s₁.heap.Ns builtinsNs mb)(hbb:∀x:Str,x≠"__name__"->mb x=bootBuiltins x)(hlim:s₁.heap.NoLimit)(hg:s₁.gens=#[])(ha:s₁.heap.get? a=some { cls:=.type "list",data:=.seq vs.toArray })(hi:IntsAre vs ns)(hl:ns.length<=sizeLine)(hr:Room k callerA)(F:∀base:Heap,K.In base->base.Ns mainGlobals mg->v7 P w K mg base CX k fa fd [x] sp)(hbind:∀(s:ShX)(u:Value),BindsTo s fd ⟨[u],[]⟩ [(x,u)])(hsp:∀H:Hp,Only H->SqL K H a (ns.map V.int)->sp [.ref a] H (λv _=>v=.bl true) λ_ _ _=>False)(hCX:∀H e s',CX [] H s₁ (λ_ _ _=>False) e s'->False):codeAny (model P w) callerA (.call (.ref fa) ⟨[.ref a],[]⟩) (λr s'=>r=.ok (.ret (.bool true))/\OldK s₁.heap s'.heap/\s'.os=s₁.os/\AllBare s'.gens) s₁:=by
 have rv:=za4 hi;have lenV:=hi.length
 have core:∀H:Hp,Only H->SqL K H a (ns.map V.int)->HOk P w H s₁.heap->(∀b,H b≠none->b=a)->(H a≠none->K.lookup a=none)->
   codeAny (model P w) callerA (.call (.ref fa) ⟨[.ref a],[]⟩) (λr s'=>r=.ok (.ret (.bool true))/\OldK s₁.heap s'.heap/\s'.os=s₁.os/\AllBare s'.gens) s₁:=by
  intro H hO hS hok hA hK;have base_of:∀{b:AdX} {o:Obj},s₁.heap.get? b=some o->H b=none->(zbV s₁.heap H).get? b=some o:=λe n=>zin e n
  have noA:∀{b:AdX} {o:Obj} {es:Array DictEntry} {ep:Nat},s₁.heap.get? b=some o->o.data=.dict es ep->H b=none:=λ{b o es ep} e d=>by
   cases q:H b with
   |none=>rfl
   |some u=>
    have e':b=a:=hA b (by rw[q];simp);subst e';rw[ha] at e;cases e;have d':Data.seq vs.toArray _=Data.dict es ep:=d
    cases d'
  have nsK:∀{b:AdX} {m:Str->Option Value},s₁.heap.Ns b m->(zbV s₁.heap H).Ns b m:=λ{b m} ⟨o,es,ep,e,d,r⟩=>⟨o,es,ep,base_of e (noA e d),d,r⟩
  have hKb:K.In (zbV s₁.heap H):=λb o e=>base_of (KX b o e) (by
   cases q:H b with
   |none=>rfl
   |some u=>
    have e':b=a:=hA b (by rw[q];simp);subst e';rw[hK (by rw[q];simp)] at e;cases e)
  have hM:Mod K mg (zbV s₁.heap H):=⟨hKb,nsK hns,⟨mb,nsK hb,hbb⟩,let ⟨mc,h1,h2⟩:=hlim;⟨mc,nsK h1,h2⟩⟩;have e0:zer P w K mg (zbV s₁.heap H) callerA [] s₁ H:=⟨rfl,hM,λb o e=>zje e,nQ (zgB _ _),trivial,λb hb=>absurd (show b∈([]:LAd) from hb) (by simp),hok,.of_eq hg⟩
  refine p7 ((F _ hKb (nsK hns)).run callerA [] s₁ H ⟨[.ref a],[]⟩ [.ref a] [.ref a] _ _ hr e0 (hbind s₁ (.ref a)) (.cons rfl .nil) (hsp H hO hS)) λr s' h=>?_
  cases r with
  |error e=>exact(hCX H e s' h).elim
  |ok fl=>
   cases fl with
   |next=>exact False.elim h
   |brk=>exact False.elim h
   |cont=>exact False.elim h
   |ret u=>
    have⟨v,H',os,bare,un,hok',r',q⟩:=h;have q':v=.bl true:=q;subst q';obtain rfl:u=Value.bool true:=r';refine⟨rfl,OldK.of_keep λb o e=>?_,os,bare⟩;cases q:H b with
    |none=>exact un.keep b o e q (by intro z;exact absurd (show b∈([]:LAd) from z) (by simp)) (by simp)
    |some u=>
     rcases hO b with z|⟨ob,xs,z⟩
     ·rw[q] at z;cases z
     ·have z2:=un.frzs b ob _ z;have⟨e1,_⟩:=hok b _ z
      have⟨e2,_⟩:=hok' b _ z2;rw[e] at e1;cases e1;exact e2
 cases hk:K.lookup a with
 |some o=>
  have e:=KX a o hk;rw[ha] at e;cases e;refine core (λ_=>none) (λ_=>.inl rfl) (.inr ⟨_,vs.toArray,_,hk,rfl,rfl,rfl,by rw[qF,lenV];exact hl,by simpa using rv⟩) (λb u z=>by have z':(none:Option HO)=some u:=z;cases z') (λb z=>absurd rfl z) λz=>absurd rfl z
 |none=>
  refine core (λb=>if b=a then some (.frz { cls:=.type "list",data:=.seq vs.toArray } (.lst (ns.map V.int))) else none) (λb=>?_) (.inl (.inr ⟨{ cls:=.type "list",data:=.seq vs.toArray },qj rfl⟩)) (λb u z=>?_) (λb z=>?_) λ_=>hk
  ·by_cases hb:b=a
   ·exact .inr ⟨_,_,qj hb⟩
   ·exact .inl (qo hb)
  ·by_cases hb:b=a
   ·have z':=(qj hb).symm.trans z;cases z';subst hb;exact⟨ha,by rw[qe];exact hl,vs,_,rv,ha⟩
   ·have z':=(qo hb).symm.trans z;cases z'
  ·by_cases hb:b=a
   ·exact hb
   ·exact absurd (qo hb) z
def zju{l:W.OpenLaw}{n k:Nat}{q:Program}{loose:LSr}{XP:(Str->Option Value)->Heap->Prop}{YP:World->Heap->Prop}{d:DefRec}{K:Params->W.Frag}{CX:World->CXT}{sp:World->Sp}{x:Str}(hn:l.most=some n)(hn2:n<=sizeLine)(hdf:d.params.defaults=[])(hr:Room k callerA)(hY:∀(w:World)(h:Heap),YP w h->(K w.params).In h)(F:∀(w:World)(mg:Str->Option Value)(fa:AdX)(h:Heap),(K w.params).In h->h.Ns mainGlobals mg->mg d.name=some (.ref fa)->
   ∃fd:FuncData,(∀(s:ShX)(u:Value),BindsTo s fd ⟨[u],[]⟩ [(x,u)])/\
    ∀base:Heap,(K w.params).In base->base.Ns mainGlobals mg->v7 l.prog w (K w.params) mg base (CX w) k fa fd [x] (sp w))(hsp:∀(w:World)(H:Hp)(a:AdX)(ns:List Int),ns.length<=n->Only H->SqL (K w.params) H a (ns.map V.int)->sp w [.ref a] H (λv _=>v=.bl true) λ_ _ _=>False)(hCX:∀(w:World)(H:Hp)(s:ShX)(e:Value)(s':ShX),CX w [] H s (λ_ _ _=>False) e s'->False):W.WalkO q loose XP YP l.row.toRowW d [] (λf vs=>PySem.call f vs):=by
 refine Att.zc8 hn hdf λw s₀ s₁ mg mb fa o pm cd doc a vs ns G Y ho hd hcd hmg hobj hints hlen hg=>?_
 have KX:=hY w _ Y;have⟨fd,hb,hF⟩:=F w mg fa _ KX G.T.g hmg
 exact zib KX G.T.g G.T.b G.T.builtins G.T.nolimit hg hobj hints (qw hlen hn2) hr hF hb (λH hO hS=>hsp w H a ns hlen hO hS) λH e s'=>hCX w H s₁ e s'
def inClass(s:Stmt)(j:Nat):Stmt:=match s with
 | .ClassDef _ _ _ body _ _ _ _ _ _ _=>body.getD j (.Pass ⟨0,0,0,0⟩)
 |_=>.Pass ⟨0,0,0,0⟩
def jm(s:Stmt):Arguments:=match s with
 | .FunctionDef _ a _ _ _ _ _ _ _ _=>a
 |_=>{ posonlyargs:=[],args:=[],vararg:=none,kwonlyargs:=[],kw_defaults:=[],kwarg:=none,defaults:=[] }
def yK(s:Stmt):List Stmt:=match s with
 | .FunctionDef _ _ b _ _ _ _ _ _ _=>b
 |_=>[]
def zc(s:Stmt):Scope:=match s with
 | .FunctionDef _ _ _ _ _ _ sc _ _ _=>sc
 |_=>{ kind:=.function,names:=[],isGenerator:=false,isCoroutine:=false }
abbrev CX0:CXT:=λ_ _ _ _ _ _=>False
abbrev E0:XK:=λ_ _ _=>False
def Jn{X:Cx}:Passes CX0 X E0:=λ_ _ _ _ _ _ _ h=>h.elim
structure Fun(K:FRx)(x qual:Str)(st:Stmt)(f:AdX)(fd:FuncData):Prop where
 ex:∃(oc:Value) (od:Option Addr) (kV doc pm:Value) (an:Option Addr) (cdv ct:Value) (osl:Array (Option Value)),
  fd=W.fnOf x qual (jm st) (yK st) (zc st) .none kV doc pm an cdv ct/\K.lookup f=some ⟨oc,od,.func fd,osl⟩/\W.codeIn K cdv qual=true
 kp:W.keepIn K (.ref f)=true
section
variable{P:Program}{w:World}{K:FRx}{mg:Str->Option Value}{base:Heap}
def Fun.ok{x qual:Str}{st:Stmt}{f:AdX}{fd:FuncData}{N ps:LSr}{k:Nat}{sp:Sp}(F:Fun K x qual st f fd)(S:zr N ps (zc st))(len:∀vs H Q E,sp vs H Q E->vs.length=ps.length)(hbody:∀(cdv:Value)(A:Around)(outer:List Env)(s:ShX)(H:Hp)(vs:List V)(Q:VK)(E:XK),Room k (A.deeper (envOfC qual (zc st) s.heap.objs.size f cdv))->sp vs H Q E->
   ∃t,PSs (Ug CX0 P w K mg base N qual (zc st) f cdv A outer s H E).nox (yK st) t/\t { nx:=λ_ H'=>Q .non H',rt:=Q } (start N vs) H):v7 P w K mg base CX0 (k+1) f fd ps sp:=by
 obtain⟨oc,od,kV,doc,pm,an,cdv,ct,osl,rfl,lk,hcd⟩:=F.ex;refine zng lk hcd S len λA outer s H vs Q E hr hsp=>?_
 have⟨t,h,q⟩:=hbody cdv A outer s H vs Q E hr hsp;exact⟨t,h.nox,q⟩
def Fun.binds{x qual:Str}{st:Stmt}{f:AdX}{fd:FuncData}{ps:LSr}(F:Fun K x qual st f fd)(h:∀(kV doc pm:Value)(an:Option Addr)(cdv ct:Value)(us:LVl),us.length=ps.length->bindArgs (W.fnOf x qual (jm st) (yK st) (zc st) .none kV doc pm an cdv ct) ⟨us,[]⟩=pure (ps.zip us)):Binds K fd ps []:=by
 obtain⟨oc,od,kV,doc,pm,an,cdv,ct,osl,rfl,lk,hcd⟩:=F.ex;exact .all (h kV doc pm an cdv ct)
def zb8{x qual:Str}{st:Stmt}{f:AdX}{oc:Value}{od an:Option Addr}{osl:Array (Option Value)}{kV doc pm cdv ct:Value}(l:K.lookup f=some ⟨oc,od,.func (W.fnOf x qual (jm st) (yK st) (zc st) .none kV doc pm an cdv ct),osl⟩)(c:W.codeIn K cdv qual=true)(k:W.keepIn K (.ref f)=true):Fun K x qual st f (W.fnOf x qual (jm st) (yK st) (zc st) .none kV doc pm an cdv ct):=⟨⟨oc,od,kV,doc,pm,an,cdv,ct,osl,rfl,l,c⟩,k⟩
end
def Same(H H':Hp):Prop:=∀b o,H b=some o->H' b=some o
def Same.refl(H:Hp):Same H H:=λ_ _ h=>h
def Same.trans{H H1 H2:Hp}(a:Same H H1)(b:Same H1 H2):Same H H2:=λc o h=>b c o (a c o h)
def Same.free{H H':Hp}(e:Same H H'){l:AdX}(h:H' l=Option.none):H l=Option.none:=by
 cases q:H l with
 |none=>rfl
 |some o=>
  rw[e l o q] at h;cases h
def Same.seq{K:FRx}{H H':Hp}{a:AdX}{xs:List V}(e:Same H H')(h:SqL K H a xs):SqL K H' a xs:=by
 rcases h with(h|⟨o,h⟩)|h
 ·exact .inl (.inl (e _ _ h))
 ·exact .inl (.inr ⟨o,e _ _ h⟩)
 ·exact .inr h
end L2
set_option maxHeartbeats 4000000
namespace L2
open PySem PySem.Spec PyProof.Rows
mutual
inductive Rep(K:FRx)(H:Hp):V->PyData->Prop
 |non:Rep K H .non .none
 |bl (b:Bool):Rep K H (.bl b) (.bool b)
 |int (i:Int):Rep K H (.int i) (.int i)
 |str (x:Str):Rep K H (.str x) (.str x)
 |tup {a:AdX} {xs:List V} {ds:LPd}:SqT K H a xs->Reps K H xs ds->Rep K H (.ref a) (.tuple ds)
 |lst {a:AdX} {xs:List V} {ds:LPd}:SqL K H a xs->Reps K H xs ds->Rep K H (.ref a) (.list ds)
inductive Reps(K:FRx)(H:Hp):List V->List PyData->Prop
 |nil:Reps K H [] []
 |cons {v:V} {d:PdX} {vs:List V} {ds:LPd}:Rep K H v d->Reps K H vs ds->Reps K H (v::vs) (d::ds)
end
def Same.tup{K:FRx}{H H':Hp}{a:AdX}{xs:List V}(e:Same H H')(h:SqT K H a xs):SqT K H' a xs:=by
 rcases h with(h|⟨o,h⟩)|h
 ·exact .inl (.inl (e _ _ h))
 ·exact .inl (.inr ⟨o,e _ _ h⟩)
 ·exact .inr h
mutual
theorem Rep.same{K:FRx}{H H':Hp}(e:Same H H'):∀{v:V} {d:PdX},Rep K H v d->Rep K H' v d
 |_,_,.non=>.non
 |_,_,.bl b=>.bl b
 |_,_,.int i=>.int i
 |_,_,.str x=>.str x
 |_,_,.tup h r=>.tup (e.tup h) (Reps.same e r)
 |_,_,.lst h r=>.lst (e.seq h) (Reps.same e r)
theorem Reps.same{K:FRx}{H H':Hp}(e:Same H H'):∀{vs:List V} {ds:LPd},Reps K H vs ds->Reps K H' vs ds
 |_,_,.nil=>.nil
 |_,_,.cons h r=>.cons (Rep.same e h) (Reps.same e r)
end
theorem Reps.length{K:FRx}{H:Hp}:∀{vs:List V} {ds:LPd},Reps K H vs ds->vs.length=ds.length
 |_,_,.nil=>rfl
 |_,_,.cons _ r=>by simp[Reps.length r]
theorem Reps.getD{K:FRx}{H:Hp}:∀{vs:List V} {ds:LPd} {i:Nat} {d:PdX},Reps K H vs ds->ds[i]?=some d->∃v,vs[i]?=some v/\Rep K H v d
 |_,_,_,_,.nil,e=>by simp at e
 |_,_,0,_,.cons h _,e=>by simp at e;subst e;exact⟨_,rfl,h⟩
 |_,_,i+1,_,.cons _ r,e=>by
  obtain⟨d,h1,h2⟩:=Reps.getD (i:=i) r (by simpa using e);exact⟨d,by simpa using h1,h2⟩
theorem Reps.append{K:FRx}{H:Hp}:∀{vs ws:List V} {ds es:LPd},Reps K H vs ds->Reps K H ws es->Reps K H (vs++ws) (ds++es)
 |_,_,_,_,.nil,s=>s
 |_,_,_,_,.cons h r,s=>.cons h (Reps.append r s)
theorem Reps.take{K:FRx}{H:Hp}:∀{vs:List V} {ds:LPd} (n:Nat),Reps K H vs ds->Reps K H (vs.take n) (ds.take n)
 |_,_,0,_=>.nil
 |_,_,_+1,.nil=>.nil
 |_,_,n+1,.cons h r=>.cons h (Reps.take n r)
theorem Reps.drop{K:FRx}{H:Hp}:∀{vs:List V} {ds:LPd} (n:Nat),Reps K H vs ds->Reps K H (vs.drop n) (ds.drop n)
 |_,_,0,r=>r
 |_,_,_+1,.nil=>.nil
 |_,_,n+1,.cons _ r=>Reps.drop n r
theorem Reps.ints{K:FRx}{H:Hp}:∀ns:List Int,Reps K H (ns.map V.int) (ns.map PyData.int)
 |[]=>.nil
 |n::r=>.cons (.int n) (Reps.ints r)
section
variable{X:Cx}{pins:PNx}{σ:St}{H:Hp}{s:ShX}
mutual
theorem Inv.reads(I:Inv X pins σ H s):∀{v:V} {d:PdX} {u:Value},Rep X.K H v d->RelV v u->∃as,Reads s.heap u d as
 |_,_,_,.non,r=>by cases (show _=Value.none from r);exact⟨_,.none⟩
 |_,_,_,.bl b,r=>by cases (show _=Value.bool b from r);exact⟨_,.bool b⟩
 |_,_,_,.int i,r=>by obtain⟨t,rfl⟩:=r;exact⟨_,.int i t⟩
 |_,_,_,.str x,r=>by obtain⟨t,rfl⟩:=r;exact⟨_,.str x t⟩
 |_,_,_,.tup h q,r=>by
  cases (show _=Value.ref _ from r);have⟨its,rv,⟨o,ho,hc,n,hd⟩,_⟩:=I.tuple h;have⟨as,ra⟩:=Inv.readsAll I q rv;exact⟨as,.tuple ho hc hd ra⟩
 |_,_,_,.lst h q,r=>by
  cases (show _=Value.ref _ from r);have⟨its,rv,⟨o,n,ho,hc,_,hd⟩,_⟩:=I.list h;have⟨as,ra⟩:=Inv.readsAll I q rv;exact⟨_,.list ho hc hd ra⟩
theorem Inv.readsAll(I:Inv X pins σ H s):∀{vs:List V} {ds:LPd} {us:LVl},Reps X.K H vs ds->Vals vs us->∃as,ReadsAll s.heap us ds as
 |_,_,_,.nil,.nil=>⟨_,.nil⟩
 |_,_,_,.cons h q,.cons r1 r2=>by
  have⟨as,a⟩:=Inv.reads I h r1;have⟨bs,b⟩:=Inv.readsAll I q r2;exact⟨_,.cons a b⟩
end
end
section
variable{X:Cx}
def yH:OpR X (binaryOp .Mult) (rI IntMulOk λi j=>.int (i*j)):=opI λ_ _ _ _ _ _ _ hc q=>mul_int q hc
def zk7(_ j:Int):Prop:=j≠0/\j.natAbs.log2<9000
def yW:OpR X (binaryOp .FloorDiv) (rI zk7 λi j=>.int (i.fdiv j)):=opI λ_ _ _ _ _ _ _ hc q=>floordiv_int hc.1 q (.inl (PyProof.noPylong_of_log2 hc.2))
def znq(K:FRx):R2:=λx y H Q=>∃d e,Rep K H x d/\Rep K H y e/\SeqAt.shaped d=true/\SeqAt.shaped e=true/\Q (.bl (PyData.eqv d e)) H
def zmS(K:FRx):R2:=λx y H Q=>∃d e,Rep K H x d/\Rep K H y e/\SeqAt.shaped d=true/\SeqAt.shaped e=true/\Q (.bl (!PyData.eqv d e)) H
def wQ(hu:X.A.units+64<cLine):OpR X (compareOp .Eq) (znq X.K):=by
 intro pins s σ H x y v u Q I rx ry h;have⟨d,e,hd,he,sd,se,q⟩:=h;have⟨as,ra⟩:=I.reads hd rx;have⟨bs,rb⟩:=I.reads he ry;exact eq_dataH ra rb sd se hu ⟨.bl _,H,I,rfl,q⟩
def wk(hu:X.A.units+64<cLine):OpR X (compareOp .NotEq) (zmS X.K):=by
 intro pins s σ H x y v u Q I rx ry h;have⟨d,e,hd,he,sd,se,q⟩:=h;have⟨as,ra⟩:=I.reads hd rx;have⟨bs,rb⟩:=I.reads he ry;exact ne_dataH ra rb sd se hu ⟨.bl _,H,I,rfl,q⟩
inductive IsI(K:FRx)(H:Hp):V->String->Bool->Prop
 |int_int (i:Int):IsI K H (.int i) "int" true
 |int_bool (i:Int):IsI K H (.int i) "bool" false
 |int_tup (i:Int):IsI K H (.int i) "tuple" false
 |bl_int (b:Bool):IsI K H (.bl b) "int" true
 |bl_bool (b:Bool):IsI K H (.bl b) "bool" true
 |tup_tup {a:AdX} {xs:List V}:SqT K H a xs->IsI K H (.ref a) "tuple" true
 |tup_lst {a:AdX} {xs:List V}:SqT K H a xs->IsI K H (.ref a) "list" false
 |tup_int {a:AdX} {xs:List V}:SqT K H a xs->IsI K H (.ref a) "int" false
 |lst_lst {a:AdX} {xs:List V}:SqL K H a xs->IsI K H (.ref a) "list" true
 |lst_tup {a:AdX} {xs:List V}:SqL K H a xs->IsI K H (.ref a) "tuple" false
 |lst_int {a:AdX} {xs:List V}:SqL K H a xs->IsI K H (.ref a) "int" false
def znL(K:FRx):List V->Hp->VK->Prop:=λxs H Q=>∃x T b,xs=[x,.ty T]/\IsI K H x T b/\Q (.bl b) H
def zhK:vF X (.builtin "isinstance") (znL X.K):=by
 intro pins s σ H xs us Q I r h;obtain⟨x,T,b,rfl,hi,q⟩:=h;obtain⟨u,w',rfl,rx,rT⟩:=vals2 r;cases (show w'=Value.type T from rT);have fin:∀tk,EP X pins σ Q (.bool b) { s with toks:=tk }:=λtk=>⟨.bl b,H,I.tok tk,rfl,q⟩
 have fin0:EP X pins σ Q (.bool b) s:=⟨.bl b,H,I,rfl,q⟩;cases hi with
 |int_int i=>obtain⟨t,rfl⟩:=rx;exact IsiPair.int_int fin0
 |int_bool i=>obtain⟨t,rfl⟩:=rx;exact IsiPair.int_bool (fin _)
 |int_tup i=>obtain⟨t,rfl⟩:=rx;exact IsiPair.int_tuple (fin _)
 |bl_int i=>cases (show u=Value.bool i from rx);exact IsiPair.bool_int fin0
 |bl_bool i=>cases (show u=Value.bool i from rx);exact IsiPair.bool_bool fin0
 |tup_tup h=>cases (show u=Value.ref _ from rx);have⟨its,rv,⟨o,ho,hc,n,hd⟩,_⟩:=I.tuple h;exact IsiPair.tuple_tuple ho hc fin0
 |tup_lst h=>cases (show u=Value.ref _ from rx);have⟨its,rv,⟨o,ho,hc,n,hd⟩,_⟩:=I.tuple h;exact IsiPair.tuple_list ho hc (fin _)
 |tup_int h=>cases (show u=Value.ref _ from rx);have⟨its,rv,⟨o,ho,hc,n,hd⟩,_⟩:=I.tuple h;exact IsiPair.tuple_int ho hc (fin _)
 |lst_lst h=>cases (show u=Value.ref _ from rx);have⟨its,rv,⟨o,n,ho,hc,_,hd⟩,_⟩:=I.list h;exact IsiPair.list_list ho hc fin0
 |lst_tup h=>cases (show u=Value.ref _ from rx);have⟨its,rv,⟨o,n,ho,hc,_,hd⟩,_⟩:=I.list h;exact IsiPair.list_tuple ho hc (fin _)
 |lst_int h=>cases (show u=Value.ref _ from rx);have⟨its,rv,⟨o,n,ho,hc,_,hd⟩,_⟩:=I.list h;exact IsiPair.list_int ho hc (fin _)
end
def yD:bootBuiltins "len"=some (.builtin "len"):=by decide+kernel
def zhD:bootBuiltins "abs"=some (.builtin "abs"):=by decide+kernel
def zmv:bootBuiltins "sum"=some (.builtin "sum"):=by decide+kernel
def zaA:bootBuiltins "isinstance"=some (.builtin "isinstance"):=by decide+kernel
def zmp:bootBuiltins "int"=some (.type "int"):=by decide+kernel
def zjB:bootBuiltins "bool"=some (.type "bool"):=by decide+kernel
def zZ:bootBuiltins "tuple"=some (.type "tuple"):=by decide+kernel
def wq:bootBuiltins "list"=some (.type "list"):=by decide+kernel
def NoB(mg:Str->Option Value)(l:LSr):Prop:=∀x∈l,mg x=none
def nbg{mg:Str->Option Value}{bs:LSr}{x:Str}(h:NoB mg bs)(m:x∈bs:=by decide):mg x=none:=h x m
def HasDef(K:FRx)(mg:Str->Option Value)(x:Str)(st:Stmt):Prop:=∃f fd,Fun K x x st f fd/\mg x=some (.ref f)
def Def(P:Program)(w:World)(K:FRx)(mg:Str->Option Value)(base:Heap)(CX:CXT)(k:Nat)(x:Str)(ps:LSr)(sp:Sp):Prop:=∃f fd,v7 P w K mg base CX k f fd ps sp/\Binds K fd ps []/\W.keepIn K (.ref f)=true/\mg x=some (.ref f)
section
variable{P:Program}{w:World}{K:FRx}{mg:Str->Option Value}{base:Heap}
def Def.mk{x:Str}{st:Stmt}{N ps:LSr}{k:Nat}{sp:Sp}(h:HasDef K mg x st)(S:zr N ps (zc st))(hb:∀(kV doc pm:Value)(an:Option Addr)(cdv ct:Value)(us:LVl),us.length=ps.length->bindArgs (W.fnOf x x (jm st) (yK st) (zc st) .none kV doc pm an cdv ct) ⟨us,[]⟩=pure (ps.zip us))(len:∀vs H Q E,sp vs H Q E->vs.length=ps.length)(hbody:∀(f:AdX)(cdv:Value)(A:Around)(outer:List Env)(s:ShX)(H:Hp)(vs:List V)(Q:VK)(E:XK),Room k (A.deeper (envOfC x (zc st) s.heap.objs.size f cdv))->sp vs H Q E->
   ∃t,PSs (Ug CX0 P w K mg base N x (zc st) f cdv A outer s H E).nox (yK st) t/\t { nx:=λ_ H'=>Q .non H',rt:=Q } (start N vs) H):Def P w K mg base CX0 (k+1) x ps sp:=by
 have⟨f,fd,F,hm⟩:=h;exact⟨f,fd,F.ok S len (λcdv A outer s H vs Q E hr hs=>hbody f cdv A outer s H vs Q E hr hs),F.binds hb,F.kp,hm⟩
end
section
variable{X:Cx}{CX:CXT}{E:XK}{k k':Nat}{x:Str}{ps:LSr}{sp:Sp}{p pos:Pos}{e:Expr}{es:List Expr}{t:TA}
def WU(D:Def X.prog X.w X.K X.mg X.base CX k x ps sp)(hr:Room k' X.A)(hg:Gl X x)(hx:Passes CX X E)(ha:PA X (e::es) t)(hk:k<=k':=by decide)(hdb:NDx x:=by decide)(he:SEx X e es:=by rfl)(hpl:PLx X pos es:=by rfl):PE X (.Call (.Name x p) (e::es) [] pos) (zk5 sp [] E t):=by
 have⟨f,fd,F,B,kp,m⟩:=D;exact zjM F (hr.mono hk) hg m kp B .nil hx ha hdb he hpl
end
def ya{H:Hp}{p:AdX}(h:H p=none)(o:HO):Same H (upd H p o):=λb u q=>by rw[zV (jN q h)];exact q
theorem ZD{env:Env}:∀(l:List (Str×NameKind)) (cs:LSA),(∀x∈l,x.2=.free->∃c,env.cells.lookup x.1=some c)->
  ∃cl,(forIn l cs λ(x:Str×NameKind) (cs:LSA)=>if (x.2==NameKind.free)=true then (do let c <-cellOf env x.1;pure (ForInStep.yield ((x.1,c)::cs)):Sem (ForInStep (List (Str×Addr)))) else pure (ForInStep.yield cs))=(pure cl:Sem (List (Str×Addr)))
   /\(∀p∈cl,p∈cs\/env.cells.lookup p.1=some p.2)/\(∀p∈cs,p∈cl)/\∀n,(n,NameKind.free)∈l->∃c,(n,c)∈cl
 |[],cs,_=>⟨cs,rfl,λp hp=>.inl hp,λp hp=>hp,λn hn=>absurd hn (by simp)⟩
 |(n,k)::r,cs,h=>by
  by_cases hk:k=.free
  ·subst hk;obtain⟨c,hc⟩:=h (n,.free) ka rfl;obtain⟨cl,e,h1,h2,h3⟩:=ZD r ((n,c)::cs) λx hx=>h x (qA _ hx)
   have ec:cellOf env n=pure c:=by
    unfold cellOf;rw[hc]
   refine⟨cl,?_,λp hp=>?_,λp hp=>h2 p (qA _ hp),λm hm=>?_⟩
   ·rw[ni];show((do let c <-cellOf env n;pure (ForInStep.yield ((n,c)::cs)):Sem (ForInStep (List (Str×Addr)))) >>= _)=_
    rw[ec,pure_bind,pure_bind];exact e
   ·rcases h1 p hp with z|z
    ·rcases qx.mp z with z|z
     ·subst z;exact .inr hc
     ·exact .inl z
    ·exact .inr z
   ·rcases qx.mp hm with z|z
    ·cases z;exact⟨c,h2 _ ka⟩
    ·exact h3 m z
  ·obtain⟨cl,e,h1,h2,h3⟩:=ZD r cs λx hx=>h x (qA _ hx)
   have hb:(k==NameKind.free)=false:=by simpa using hk
   refine⟨cl,?_,h1,h2,λm hm=>?_⟩
   ·rw[ni];show((if (k==NameKind.free)=true then _ else pure (ForInStep.yield cs):Sem (ForInStep (List (Str×Addr)))) >>= _)=_
    rw[hb,qo qL,pure_bind];exact e
   ·rcases qx.mp hm with z|z
    ·cases z;exact absurd rfl hk
    ·exact h3 m z
structure Ux(scope:Scope)(env:Env)(cl:LSA):Prop where
 from_:∀p∈cl,env.cells.lookup p.1=some p.2
 all:∀n,(n,NameKind.free)∈scope.names->∃c,(n,c)∈cl
def Ji{scope:Scope}{env:Env}(h:∀x∈scope.names,x.2=.free->∃c,env.cells.lookup x.1=some c):∃cl,closureFor scope env=pure cl/\Ux scope env cl:=by
 obtain⟨cl,e,h1,_,h3⟩:=ZD (env:=env) scope.names [] h;refine⟨cl,?_,λp hp=>(h1 p hp).resolve_left (by simp),h3⟩;have e2:closureFor scope env=(forIn scope.names [] λ(x:Str×NameKind) (cs:LSA)=>if (x.2==NameKind.free)=true then (do let c <-cellOf env x.1;pure (ForInStep.yield ((x.1,c)::cs)):Sem (ForInStep (List (Str×Addr)))) else pure (ForInStep.yield cs)) >>= pure:=by rfl
 rw[e2,e];exact pure_bind _ _
def zar{cl:LSA}{n:Str}{c:AdX}(h:(n,c)∈cl):∃c',cl.lookup n=some c':=by
 induction cl with
 |nil=>cases h
 |cons p r ih=>
  have⟨m,d⟩:=p;rw[kq];by_cases e:n=m
  ·subst e;exact⟨d,by simp⟩
  ·have hb:(n==m)=false:=by simpa using e
   rw[hb];rcases qx.mp h with z|z
   ·cases z;exact absurd rfl e
   ·exact ih z
def Ux.look{scope:Scope}{env:Env}{cl:LSA}(k:Ux scope env cl){x:Str}{c:AdX}(h:cl.lookup x=some c):env.cells.lookup x=some c:=k.from_ _ (kO h)
def Ux.has{scope:Scope}{env:Env}{cl:LSA}(k:Ux scope env cl){x:Str}(h:(x,NameKind.free)∈scope.names):∃c,cl.lookup x=some c/\env.cells.lookup x=some c:=by
 have⟨c,hc⟩:=k.all x h;have⟨c',e⟩:=zar hc;exact⟨c',e,k.look e⟩
def Vo{scope:Scope}{env:Env}{x:Str}:∀{k:NameKind},(relabel scope env).names.lookup x=some k->scope.names.lookup x=some k\/(k=.cell/\scope.names.lookup x=some .free):=by
 unfold relabel;dsimp only;generalize scope.names=l;induction l with
 |nil=>intro k h;cases h
 |cons p r ih=>
  intro k h;have⟨n,j⟩:=p;rw[gI,kq] at h;rw[kq];by_cases hc:(j==NameKind.free&&env.scope.kind==ScopeKind.function&&env.kindOf n==some NameKind.cell)=true
  ·rw[qj hc] at h;dsimp only at h;cases e:x==n with
   |true=>
    rw[e] at h;dsimp only at h;cases h;have hj:j=.free:=by
     simp only [mU,beq_iff_eq] at hc;exact hc.1.1
    subst hj;exact .inr ⟨rfl,rfl⟩
   |false=>
    rw[e] at h;exact ih h
  ·rw[qo hc] at h;dsimp only at h;cases e:x==n with
   |true=>
    rw[e] at h;exact .inl h
   |false=>
    rw[e] at h;exact ih h
def zb0{scope:Scope}{env:Env}{x:Str}(h:scope.names.lookup x=some .free):(relabel scope env).names.lookup x=some .cell\/(relabel scope env).names.lookup x=some .free:=by
 revert h
 unfold relabel;dsimp only;generalize scope.names=l;induction l with
 |nil=>intro h;cases h
 |cons p r ih=>
  intro h;have⟨n,j⟩:=p;rw[kq] at h;rw[gI,kq];by_cases hc:(j==NameKind.free&&env.scope.kind==ScopeKind.function&&env.kindOf n==some NameKind.cell)=true
  ·rw[qj hc];dsimp only;cases e:x==n with
   |true=>exact .inl rfl
   |false=>rw[e] at h;exact ih h
  ·rw[qo hc];dsimp only;cases e:x==n with
   |true=>rw[e] at h;exact .inr h
   |false=>rw[e] at h;exact ih h
def zex(o:Option Str)(C:AdX):List (Str×Addr):=match o with |some x=>[(x,C+1)]|none=>[]
def xQ(X:Cx)(o:Option Str)(N:LSr)(scope:Scope)(cl:LSA)(C:AdX)(ex:LAd)(s:ShX)(H:Hp):Cx:={ X with N:=N,s₀:=s,H₀:=H,env:=compEnvC scope (zex o C++cl) C X.env,outer:=X.stack,ex:=ex,fn:=λy=>o==some y,pn:=[],xe:=λ_ _=>False }
abbrev z9(X:Cx)(N:LSr)(scope:Scope)(cl:LSA)(C:AdX)(ex:LAd)(s:ShX)(H:Hp):Cx:=xQ X none N scope cl C ex s H
structure xS(X:Cx)(scope:Scope)(o:Option Str):Prop where
 kind:scope.kind=.function
 is:∀x,o=some x->scope.names.lookup x=some .cell
 only:∀y∈scope.names,y.2=.cell->o=some y.1
 cf:∀(n:Nat)(acc:LSA),cellsFrom (n+1) scope.names acc=zex o n++acc
 pc:∀h:Heap,pushCells h scope.names=match o with |some _=>h.push { cls:=.type "cell",data:=.cell none }|none=>h
 loc:∀y∈scope.names,y.2=.local->scope.names.lookup y.1=some .local
 free:∀y∈scope.names,y.2=.free->X.env.kindOf y.1=some .cell\/X.env.kindOf y.1=some .free
structure yc(X:Cx)(scope:Scope):Prop where
 kind:scope.kind=.function
 nocell:∀y∈scope.names,y.2≠ .cell
 loc:∀y∈scope.names,y.2=.local->scope.names.lookup y.1=some .local
 free:∀y∈scope.names,y.2=.free->X.env.kindOf y.1=some .cell\/X.env.kindOf y.1=some .free
theorem nocells:∀names:List (Str×NameKind),(∀y∈names,y.2≠ .cell)->(∀n acc,cellsFrom n names acc=acc)/\∀h,pushCells h names=h
 |[],_=>⟨λ_ _=>rfl,λ_=>rfl⟩
 |(x,k)::r,h=>by
  have hk:¬(k==NameKind.cell)=true:=λe=>h _ (.head _) (gJ.mp e)
  obtain⟨h1,h2⟩:=nocells r λy hy=>h y (.tail _ hy)
  refine⟨λn acc=>?_,λhh=>?_⟩
  ·unfold cellsFrom;rw[qo hk];exact h1 n acc
  ·unfold pushCells;rw[qo hk];exact h2 hh
def yc.o{X:Cx}{scope:Scope}(S:yc X scope):xS X scope none:=⟨S.kind,λx h=>(by cases h),λy hy h=>absurd h (S.nocell y hy),λn acc=>(nocells _ S.nocell).1 (n+1) acc,λh=>(nocells _ S.nocell).2 h,S.loc,S.free⟩
def uG{o:Option Str}{C c:AdX}{cl:LSA}{y:Str}(h:(zex o C++cl).lookup y=some c):(o=some y/\C+1=c)\/(o≠some y/\cl.lookup y=some c):=by
 cases o with
 |none=>exact .inr ⟨by simp,h⟩
 |some x=>
  have h:((x,C+1)::cl).lookup y=some c:=h;rw[kq] at h;cases e:y==x with
  |true=>rw[e] at h;cases h;exact .inl ⟨by rw[gJ.mp e],rfl⟩
  |false=>rw[e] at h;exact .inr ⟨λz=>beq_eq_false_iff_ne.mp e (kb z).symm,h⟩
def zhA{o:Option Str}{C:AdX}{cl:LSA}{y:Str}(h:¬o=some y):(zex o C++cl).lookup y=cl.lookup y:=by
 cases o with
 |none=>rfl
 |some x=>
  show((x,C+1)::cl).lookup y=_
  rw[kq,kW.mpr λz=>h (by rw[z])]
def zlw{o:Option Str}{C:AdX}{cl:LSA}{y:Str}(h:o=some y):(zex o C++cl).lookup y=some (C+1):=by
 subst h;show((y,C+1)::cl).lookup y=_
 rw[kq,beq_self_eq_true]
def UY(T:Nat)(F:LNt)(σ:St):St:=List.replicate T none++F.map λj=>(σ[j]?).join
section
variable{X:Cx}{o:Option Str}{pins:PNx}{σ:St}{H:Hp}{s:ShX}
def Yh(I:Inv X pins σ H s){scope:Scope}(S:xS X scope o):∀x∈scope.names,x.2=.free->∃c,X.env.cells.lookup x.1=some c:=λx hx hf=>I.ok.has x.1 (S.free x hx hf)
def U4(I:Inv X pins σ H s){scope:Scope}(S:yc X scope):∀x∈scope.names,x.2=.free->∃c,X.env.cells.lookup x.1=some c:=Yh I S.o
def zh5(I:Inv X pins σ H s){scope:Scope}(S:xS X scope o){cl:LSA}(k:Ux scope X.env cl){N:LSr}{C:AdX}{ex:LAd}(hC:s.heap.objs.size<=C)(hex:∀b∈ex,Jh X pins H b)(hexo:∀b∈ex,∃o,s.heap.get? b=some o):(xQ X o N scope cl C ex s H).Ok where
 mod:=I.ok.mod
 kind:=S.kind
 glob:=I.ok.glob
 blt:=I.ok.blt
 above:=hC
 inj:=λx y c h1 h2=>by
  have lt:∀z,cl.lookup z=some (C+1)->False:=λz hz=>by
   obtain⟨v,o,e,_⟩:=I.cell z _ (k.look hz);exact k9 C (pM (kR C) (q9 (qO e) hC))
  rcases uG h1 with⟨e1,z1⟩|⟨_,z1⟩<;>rcases uG h2 with⟨e2,z2⟩|⟨_,z2⟩
  ·rw[e1] at e2;exact kb e2
  ·rw[<-z1] at z2;exact(lt y z2).elim
  ·rw[<-z2] at z1;exact(lt x z1).elim
  ·exact I.ok.inj x y c (k.look z1) (k.look z2)
 has:=λx hx=>by
  have hx':(relabel scope X.env).names.lookup x=some .cell\/(relabel scope X.env).names.lookup x=some .free:=hx;by_cases hxx:o=some x
  ·exact⟨C+1,zlw hxx⟩
  ·have hf:(x,NameKind.free)∈scope.names:=by
    rcases hx' with h|h
    ·rcases Vo h with h|⟨_,h⟩
     ·exact absurd (S.only _ (kO h) rfl) hxx
     ·exact kO h
    ·rcases Vo h with h|⟨h0,_⟩
     ·exact kO h
     ·cases h0
   have⟨c,e,_⟩:=k.has hf;exact⟨c,(zhA hxx).trans e⟩
 cab:=λx c h hc=>by
  have hx:o=some x:=gJ.mp (show(o==some x)=true from h);rcases uG hc with⟨_,z⟩|⟨z,_⟩
  ·rw[<-z];exact Nat.le_succ_of_le hC
  ·exact absurd hx z
 hd:=I.ok.hd
 frames:=I.ok.frames
 stk:=.inl rfl
 exf:=λb hb=>by
  have⟨o,e⟩:=hexo b hb;have hlt:=qO e;refine⟨λz=>?_,λx c e' z=>?_⟩
  ·have e2:b=C:=z;rw[e2] at hlt;exact k9 C (q9 hlt hC)
  ·rcases uG e' with⟨_,q⟩|⟨_,q⟩
   ·have e2:C+1=b:=q.trans z;rw[<-e2] at hlt;exact k9 C (pM (kR C) (q9 hlt hC))
   ·exact(hex b hb).2.2.2.2.1 x c (k.look q) z
 bs:=I.bs
 bsz:=qw I.ok.bsz I.sz
 noex:=λb o e hb=>by
  rcases(hex b hb).2.2.2.1 with z|z
  ·exact I.ok.noex b o e z
  ·exact k9 _ (q9 (qO e) (qw I.ok.bsz z))
 exfs:=λb hb z=>by
  rcases qx.mp (I.zfe b z) with z|z
  ·exact(hex b hb).2.1 z
  ·exact(hex b hb).2.2.1 z
 funs:=I.stack
 frf:=I.zfB
def Ym(I:Inv X pins σ H s){scope:Scope}(S:xS X scope o){cl:LSA}(k:Ux scope X.env cl){Ts:LSr}{F:LNt}{ex:LAd}{h':Heap}{tk:Nat}(hex:∀b∈ex,Jh X pins H b)(hexo:∀b∈ex,∃o,s.heap.get? b=some o)(hF:∀j∈F,∃x,X.N[j]?=some x/\scope.names.lookup x=some .free)(hns:h'.Ns s.heap.objs.size (λ_=>none))(hk:∀b o,s.heap.get? b=some o->h'.get? b=some o)(hcl:∀x,o=some x->h'.IsCell (s.heap.objs.size+1) none):Inv (xQ X o (Ts++F.map λj=>X.N.getD j "") scope cl s.heap.objs.size ex s H) [] (UY Ts.length F σ) H { s with heap:=h',toks:=tk }:=by
 refine⟨zh5 I S k (qf _) hex hexo,rfl,I.bare,Un.kept hk,⟨_,hns,λi x v h1 h2 h3=>?_⟩,λx c h=>?_,I.hok.fresh (qf _),λx c h=>(by
   rcases uG h with⟨_,z⟩|⟨_,z⟩
   ·rw[<-z];exact I.hok.fresh (mY _)
   ·exact I.freeC x c (k.look z)),λp hp=>absurd (show p∈([]:PNx) from hp) (by simp),I.hok.kept hk,?_⟩
 ·have h1':(Ts++F.map λj=>X.N.getD j "")[i]?=some x:=h1;unfold UY at h2;have hi:Ts.length<=i:=by
   by_cases z:Ts.length<=i
   ·exact z
   ·rw[qK (by simpa using Nat.lt_of_not_le z),kz] at h2;split at h2<;>cases h2
  rw[qz (by simpa using hi),mQ,qq] at h2;rw[qz hi,qq] at h1';cases ej:F[i - Ts.length]? with
  |none=>rw[ej] at h2;cases h2
  |some j=>
   rw[ej] at h2 h1';obtain⟨y,hy,hf⟩:=hF j (qN ej);have ex:x=y:=by
    have e1:X.N.getD j ""=x:=kb h1';rw[qB,hy] at e1;exact e1.symm
   subst ex;have hs:σ[j]?=some (some v):=by
    have h2':(σ[j]?).join=some v:=kb h2;cases e:σ[j]? with
    |none=>rw[e] at h2';cases h2'
    |some o=>rw[e] at h2';exact qR some h2'
   have hkf:=S.free _ (kO hf) rfl;have⟨m,hn,hl⟩:=I.loc
   have hv:Vis X.env.scope x:=.inr hkf;have⟨u,r,l⟩:=hl j x v hy hs hv
   refine⟨u,r,.inr ⟨zb0 hf,?_⟩⟩;rcases l with⟨hl',_⟩|⟨_,c,hc,⟨o,ho,hd⟩⟩
   ·rcases hkf with z|z<;>(rw[z] at hl';cases hl')
   ·obtain⟨c',e1,e2⟩:=k.has (kO hf);rw[hc] at e2;cases e2;exact⟨c,(zhA (λq=>by rw[S.is _ q] at hf;cases hf)).trans e1,⟨o,hk _ _ ho,hd⟩⟩
 ·rcases uG h with⟨z0,z⟩|⟨_,z⟩
  ·rw[<-z];exact⟨none,hcl x z0⟩
  ·obtain⟨v,o,ho,hd⟩:=I.cell x c (k.look z);exact⟨v,o,hk _ _ ho,hd⟩
 ·show(UY Ts.length F σ).length=(Ts++F.map λj=>X.N.getD j "").length
  simp[UY]
def zeb(I:Inv X pins σ H s){scope:Scope}(S:yc X scope){cl:LSA}(k:Ux scope X.env cl){Ts:LSr}{F:LNt}{ex:LAd}{h':Heap}{tk:Nat}(hex:∀b∈ex,Jh X pins H b)(hexo:∀b∈ex,∃o,s.heap.get? b=some o)(hF:∀j∈F,∃x,X.N[j]?=some x/\scope.names.lookup x=some .free)(hns:h'.Ns s.heap.objs.size (λ_=>none))(hk:∀b o,s.heap.get? b=some o->h'.get? b=some o):Inv (z9 X (Ts++F.map λj=>X.N.getD j "") scope cl s.heap.objs.size ex s H) [] (UY Ts.length F σ) H { s with heap:=h',toks:=tk }:=Ym I S.o k hex hexo hF hns hk λx h=>(by cases h)
end
theorem JH{prog:Program}{w:World}{A:Around}{R:Result->Shared->Prop}{s:ShX}{elt target iter:Expr}{scope:Scope}{pos:Pos}{it acc:Value}{env:Env}(I:Nat->Shared->Prop)(turn:∀n s,I n s->wpAny (model prog w) A (pyNext it) (λr s₁=>match r with
   |none=>R (.ok .next) s₁
   |some v=>wpAny (model prog w) A (letOwnedTupleGo target it v) (λ_ s₂=>wpAny (model prog w) A (assign target env v) (λ_ s₃=>wpAny (model prog w) A (eval elt env) (λx s₄=>
     wpAny (model prog w) A (call (.builtin "list.append") [acc,x]) (λ_ s₅=>∃m,m<n/\I m s₅) (λ_ _=>False) s₄) (λ_ _=>False) s₃) (λ_ _=>False) s₂) (λ_ _=>False) s₁) (λ_ _=>False) s)(n:Nat)(h:I n s):codeAny (model prog w) A (.compLoop (.ListComp elt [⟨target,iter,[],0⟩] scope pos) 0 it acc env) R s:=by
 refine codeAny_loop rfl I (λn s hI=>?_) n h;show wpAny _ _ ((compTurn (.ListComp elt [⟨target,iter,[],0⟩] scope pos) 0 it acc env).onRaise (λx=>do noteFrame x env;theTreesLotGoes x)) _ _ s
 refine wpAny_noted ?_;rw[compTurn_list1];refine qt (nY (qt (gu (turn n s hI) (λr s₁ h₁=>?_) λ_ _ h'=>h'.elim)));cases r with
 |none=>exact qU h₁
 |some v=>
  refine qt (gu h₁ (λ_ s₂ h₂=>?_) λ_ _ h'=>h'.elim);exact qt (gu h₂ (λ_ s₃ h₃=>qt (qt (gu h₃ (λx s₄ h₄=>qt (gu h₄
   (λ_ s₅ h₅=>qU (qU ⟨rfl,h₅⟩)) λ_ _ h'=>h'.elim)) λ_ _ h'=>h'.elim))) λ_ _ h'=>h'.elim)
def ziN(T:Nat)(F:LNt)(g:TG)(te:TE)(k:Addr->Hp->Prop)(σ:St)(H1:Hp)(D:AdX)(J:It):Prop:=∃W:Nat->Nat->St->Hp->Prop,(∃m,W 0 m (UY T F σ) (upd H1 D (.lst [])))/\∀i m σ' H',W i m σ' H'->
  (J.stop i H'/\k D H')\/(J.go i H'/\∃N:St->Hp->Prop,(∀σ2 H2,N σ2 H2->∃m',m'<m/\W (i+1) m' σ2 H2)/\
   ∀x H2,J.yld i H' x H2->g x σ' H2 λσ2 H3=>te σ2 H3 λv H4=>∃xs,H4 D=some (.lst xs)/\xs.length<sizeLine/\N σ2 (upd H4 D (.lst (xs++[v]))))
def zd6(T:Nat)(F:LNt)(wi:TI)(g:TG)(te:TE)(k:Addr->Hp->Prop):St->Hp->Prop:=λσ H=>wi σ H λJ H1=>∀D,H1 D=none->ziN T F g te k σ H1 D J
def zkV(T:Nat)(F:LNt)(wi:TI)(g:TG)(te:TE):TE:=λσ H Q=>zd6 T F wi g te (λD H'=>Q (.ref D) H') σ H
def Y7{X:Cx}{M:Model}{A:Around}{E:VSx}{s:ShX}{scope:Scope}{o:Option Str}{globals:AdX}{cl:LSA}{qual:Str}{env:Env}{Q:Env->Shared->Prop}(S:xS X scope o)(hQ:∀h',h'.Ns s.heap.objs.size (λ_=>none)->(∀b o,s.heap.get? b=some o->h'.get? b=some o)->(∀x,o=some x->h'.IsCell (s.heap.objs.size+1) none)->Q (newEnv scope s.heap.objs.size globals (zex o s.heap.objs.size++cl) qual none .none (some env) builtinsNs) { s with heap:=h',toks:=s.toks }):wpAny M A (newFunctionEnv scope globals cl [] qual none .none (some env)) Q E s:=by
 simp only [newFunctionEnv,Option.isSome_some,pJ];refine qt (wpAny_alloc ?_);refine qt (wpAny_layCells _ (λname kind cells=>by cases hkc:kind==NameKind.cell<;>simp[hkc]) _ _ _ _ ?_);rw[show({ s with heap:=s.heap.push { cls:=.type "dict",data:=.dict #[] } }:ShX).heap.objs.size=s.heap.objs.size+1 from gw ..,S.cf,S.pc,pj];refine qt (qU (qU (hQ _ ?_ ?_ ?_)))
 ·cases o with
  |none=>exact Heap.Ns.new s.heap (.type "dict")
  |some x=>exact(Heap.Ns.new s.heap (.type "dict")).keeps λb o e=>qm _ e
 ·cases o with
  |none=>exact λb o e=>qm _ e
  |some x=>exact λb o e=>qm _ (qm _ e)
 ·intro x ho;subst ho;have e:((s.heap.push { cls:=.type "dict",data:=.dict #[] }).push { cls:=.type "cell",data:=.cell none }).get? (s.heap.push { cls:=.type "dict",data:=.dict #[] }).objs.size=some { cls:=.type "cell",data:=.cell none }:=qJ _ rfl;rw[gw] at e;exact⟨_,e,rfl⟩
section
variable{X:Cx}{o:Option Str}{elt tg iter:Expr}{scope:Scope}{pos:Pos}{Ts:LSr}{F:LNt}{wi:TI}{g:TG}{te:TE}
def zaW{cl:LSA}{use:Option (Value->Sem Unit)}{Q:VSx}{pins:PNx}{s:ShX}{σ:St}{H:Hp}{k:Addr->Hp->Prop}(hc:X.calm=true)(hi:PI X tg iter wi)(S:xS X scope o)(hF:∀j∈F,∃x,X.N[j]?=some x/\scope.names.lookup x=some .free)(hg:∀cl C ex s H,PG (xQ X o (Ts++F.map λj=>X.N.getD j "") scope cl C ex s H) tg g)(he:∀cl C ex s H,PE (xQ X o (Ts++F.map λj=>X.N.getD j "") scope cl C ex s H) elt te)(ko:Ux scope X.env cl)(I:Inv X pins σ H s)(h:zd6 Ts.length F wi g te k σ H)(fin:∀(s':ShX)(H':Hp)(D C:AdX)(m:Str->Option Value),Inv X pins σ H' s'->Jh X pins H' C->s'.heap.Ns C m->k D H'->compPost (model X.prog X.w) X.A X.xe use Q (.ref D) C (.ok .next) s'):wpAny (model X.prog X.w) X.A (eval iter X.env) (λx s₁=>wpAny (model X.prog X.w) X.A (pyIter x) (λit s₂=>wpAny (model X.prog X.w) X.A (newList []) (λacc s₃=>
   wpAny (model X.prog X.w) X.A (newFunctionEnv scope X.env.globals cl [] X.env.qual none .none (some X.env)) (λcenv s₄=>
    codeAny (model X.prog X.w) X.A (.compStart (.ListComp elt [⟨tg,iter,[],0⟩] scope pos) 0 it acc { cenv with scope:=relabel scope X.env }) (compPost (model X.prog X.w) X.A X.xe use Q acc cenv.locals) s₄) X.xe s₃) X.xe s₂) X.xe s₁) X.xe s:=by
 refine thn (hi pins s σ H _ I h) λv s1 h1=>thn h1 λitv s2 h2=>?_
 obtain⟨it,fp,tn,J,H2,rfl,I2,T,st2,f2,hW⟩:=h2;refine nX (Y7 S λh₁ hns₁ hk₁ hc₁=>?_);dsimp only at hns₁ hk₁ hc₁ ⊢;have fresh2:H2 s2.heap.objs.size=none:=I2.hok.fresh (qf _);have⟨W,⟨m0,w0⟩,turn⟩:=hW s2.heap.objs.size fresh2
 generalize hD:s2.heap.objs.size=D at*;have I3:Inv X pins σ (upd H2 D (.lst [])) { s2 with heap:=s2.heap.push { cls:=.type "list",dict:=none,data:=.seq ([]:LVl).toArray } }:=by
  refine I2.laid (t':=s2.toks) (λb u e=>qm _ e) (nQ hD) ?_;refine⟨by simp,[],0,.nil,?_⟩;rw[<-hD];exact qJ _ rfl
 generalize hS3:({ s2 with heap:=s2.heap.push { cls:=.type "list",dict:=none,data:=.seq ([]:LVl).toArray } }:ShX)=s3 at*;have hh3:s3.heap=s2.heap.push { cls:=.type "list",dict:=none,data:=.seq ([]:LVl).toArray }:=by rw[<-hS3]
 have objs:∀b∈fp,∃o,s3.heap.get? b=some o:=λb hb=>by
  have⟨o,e,_⟩:=T.obj _ _ st2 b hb;exact⟨o,by rw[hh3];exact qm _ e⟩
 have neD:∀b∈fp,b≠D:=λb hb z=>by
  have⟨o,e,_⟩:=T.obj _ _ st2 b hb;have e1:=qO e;rw[hD,z] at e1;exact k9 _ e1
 have f3:∀b∈fp,Jh X pins (upd H2 D (.lst [])) b:=λb hb=>⟨by rw[zV (neD b hb)];exact(f2 b hb).1,(f2 b hb).2⟩
 have hns:h₁.Ns s3.heap.objs.size (λ_=>none):=by
  rw[<-hS3];exact hns₁
 have keep:∀b o,s3.heap.get? b=some o->h₁.get? b=some o:=by
  rw[<-hS3];exact hk₁
 have hcl₁:∀x,o=some x->h₁.IsCell (s3.heap.objs.size+1) none:=by
  rw[<-hS3];exact hc₁
 have IY:=Ym (Ts:=Ts) (F:=F) (tk:=s3.toks) I3 S ko f3 objs hF hns keep hcl₁;have tn1:tn 0 h₁:=T.keep _ _ _ st2 λb hb o e=>keep b o (by rw[hh3];exact qm _ e)
 have stat:∀{H':Hp},(∀b∈fp,H' b=none)->∀b∈fp,Jh (xQ X o (Ts++F.map λj=>X.N.getD j "") scope cl s3.heap.objs.size fp s3 (upd H2 D (.lst []))) [] H' b:=λhn b hb=>
  ⟨hn b hb,(IY.ok.exf b hb).1,IY.ok.exfs b hb,.inl hb,(IY.ok.exf b hb).2,λp hp=>absurd (show p∈([]:PNx) from hp) (by simp)⟩
 have back:∀{σ':St} {H':Hp} {s':ShX},Inv (xQ X o (Ts++F.map λj=>X.N.getD j "") scope cl s3.heap.objs.size fp s3 (upd H2 D (.lst []))) [] σ' H' s'->k D H'->compPost (model X.prog X.w) X.A X.xe use Q (.ref D) s3.heap.objs.size (.ok .next) s':=λ{σ' H' s'} J' q=>by
  have hI:Inv X pins σ H' s':=by
   have⟨hh,gg,dd,tt,os'⟩:=s';have ho:os'=s3.os:=J'.os;subst ho;exact I3.call (h':=hh) (g':=gg) (d':=dd) (t':=tt) (ch:=fp) J'.base J'.hok J'.bare λb hb=>⟨(f3 b hb).2.2.2.1,(f3 b hb).2.1,(f3 b hb).2.2.2.2.1,(f3 b hb).2.2.2.2.2⟩
  have⟨m,hm,_⟩:=J'.loc;exact fin s' H' D s3.heap.objs.size m hI (I3.zb4 (qf _) J'.free) hm q
 have loop:∀s4:Shared,s4={ s3 with heap:=h₁,toks:=s3.toks }->
   codeAny (model X.prog X.w) X.A (.compLoop (.ListComp elt [⟨tg,iter,[],0⟩] scope pos) 0 (.ref it) (.ref D) (compEnvC scope (zex o s3.heap.objs.size++cl) s3.heap.objs.size X.env)) (compPost (model X.prog X.w) X.A X.xe use Q (.ref D) s3.heap.objs.size) s4:=by
  rintro s4 rfl;refine JH (λn s'=>∃i σ' H',Inv (xQ X o (Ts++F.map λj=>X.N.getD j "") scope cl s3.heap.objs.size fp s3 (upd H2 D (.lst []))) [] σ' H' s'/\tn i s'.heap/\(∀b∈fp,H' b=none)/\W i n σ' H') ?_ m0
   ⟨0,_,_,IY,tn1,λb hb=>(f3 b hb).1,w0⟩
  rintro n s5 ⟨i,σ5,H5,I5,st5,fr5,w5⟩;rcases turn i n σ5 H5 w5 with⟨stop,qn⟩|⟨go,N,hN,step⟩
  ·refine thn (T.done (xQ X o (Ts++F.map λj=>X.N.getD j "") scope cl s3.heap.objs.size fp s3 (upd H2 D (.lst []))) rfl rfl rfl hc i [] s5 σ5 H5 _ I5 (stat fr5) st5 stop) λr s6 ⟨hr,I6⟩=>?_
   subst hr;exact back I6 qn
  ·refine thn (T.item (xQ X o (Ts++F.map λj=>X.N.getD j "") scope cl s3.heap.objs.size fp s3 (upd H2 D (.lst []))) rfl rfl rfl hc i [] s5 σ5 H5 _ I5 (stat fr5) st5 go) λr s6 ⟨u,hr,h6⟩=>?_
   subst hr;refine thn h6 λ_ s7 ⟨x,H7,I7,r7,y7,st7,fr7⟩=>?_
   have I7':=I7.pinned (stat fr7) (T.obj _ _ st7);refine thn (hg cl _ fp s3 _ _ s7 σ5 H7 x u _ I7' r7 (step x H7 y7)) λ_ s8 ⟨σ8,H8,I8,q8⟩=>?_
   refine thn (he cl _ fp s3 _ _ s8 σ8 H8 _ I8 q8) λev s9 ⟨y,H9,I9,r9,xs,hx,hz,n9⟩=>?_
   refine thn (uD _ s9 σ8 H9 (.ref D) [y] (.ref D) [ev] (λ_ H'=>N σ8 H') I9 rfl (.cons r9 .nil) ⟨D,xs,y,rfl,rfl,hx,hz,n9⟩) λ_ s10 ⟨z,H10,I10,_,n10⟩=>?_
   have⟨m',hm,w10⟩:=hN σ8 H10 n10;refine⟨m',hm,i+1,σ8,H10,I10.uC,T.keep _ _ _ st7 λb hb o e=>(I10.pin (b,o) (qS _ (qS _ (je hb e)))).1,λb hb=>?_,w10⟩;have⟨o,e,d⟩:=T.obj _ _ st7 b hb;exact(I10.pin (b,o) (qS _ (qS _ (je hb e)))).2.1
 subst hS3;subst hD;exact codeAny_compStart_list (loop _ rfl) (T.self _ 0 _ _ _ tn1 (loop _ rfl))
def zdx(hc:X.calm=true)(hi:PI X tg iter wi)(S:xS X scope o)(hF:∀j∈F,∃x,X.N[j]?=some x/\scope.names.lookup x=some .free)(hg:∀cl C ex s H,PG (xQ X o (Ts++F.map λj=>X.N.getD j "") scope cl C ex s H) tg g)(he:∀cl C ex s H,PE (xQ X o (Ts++F.map λj=>X.N.getD j "") scope cl C ex s H) elt te)(hs:FSx X iter:=by exact λ_=>rfl):PE X (.ListComp elt [⟨tg,iter,[],0⟩] scope pos) (zkV Ts.length F wi g te):=by
 intro pins s σ H Q I h;obtain⟨cl,hcl,ko⟩:=Ji (Yh I S);rw[eval_ListComp];refine mG (use:=none) rfl hs hcl S.kind S.loc (zaW (use:=none) hc hi S hF hg he ko I h λs' H' D C m I' fC hm q=>?_);refine⟨m,hm,λh' hs'=>⟨.ref D,H',?_,rfl,q⟩⟩;exact I'.turned (t':=s'.toks) (λb o hb e=>hs'.extBut b o hb e) fC.1 fC.2.1 fC.2.2.2.1 fC.2.2.2.2.1 fC.2.2.2.2.2
def zfh(hc:X.calm=true)(hi:PI X tg iter wi)(S:yc X scope)(hF:∀j∈F,∃x,X.N[j]?=some x/\scope.names.lookup x=some .free)(hg:∀cl C ex s H,PG (z9 X (Ts++F.map λj=>X.N.getD j "") scope cl C ex s H) tg g)(he:∀cl C ex s H,PE (z9 X (Ts++F.map λj=>X.N.getD j "") scope cl C ex s H) elt te)(hs:FSx X iter:=by exact λ_=>rfl):PE X (.ListComp elt [⟨tg,iter,[],0⟩] scope pos) (zkV Ts.length F wi g te):=zdx hc hi S.o hF hg he hs
def znt(T:Nat)(F:LNt)(wi:TI)(g:TG)(te:TE)(i:Nat):TS:=λD σ H=>zd6 T F wi g te (λl H'=>D.nx (σ.set i (some (.ref l))) H') σ H
def U2{x:Str}{pos' spos:Pos}{i:Nat}(hN:X.N.Nodup)(hi':X.N[i]?=some x)(hx:X.env.scope.names.lookup x=some .local)(hc:X.calm=true)(hi:PI X tg iter wi)(S:yc X scope)(hF:∀j∈F,∃x,X.N[j]?=some x/\scope.names.lookup x=some .free)(hg:∀cl C ex s H,PG (z9 X (Ts++F.map λj=>X.N.getD j "") scope cl C ex s H) tg g)(he:∀cl C ex s H,PE (z9 X (Ts++F.map λj=>X.N.getD j "") scope cl C ex s H) elt te)(hsw:swapsWith (.ListComp elt [⟨tg,iter,[],0⟩] scope pos) (some (.Name x pos')) spos.line X.env=pure true:=by rfl)(hs:FSx X iter:=by exact λ_=>rfl):PS X (.Assign [.Name x pos'] (.ListComp elt [⟨tg,iter,[],0⟩] scope pos) spos) (znt Ts.length F wi g te i):=by
 intro pins s σ H D I h;obtain⟨cl,hcl,ko⟩:=Ji (U4 I S);rw[exec_Assign_Name_used _ _ _ _ hsw];refine qt (nY (qt ?_));show wpAny _ X.A (do let _ <-comprehension (.ListComp elt [⟨tg,iter,[],0⟩] scope pos) scope X.env _ (newList []) false (eval iter X.env) (some (assign (.Name x pos') X.env))) _ _ s
 refine qt (gu (mG (use:=some (assign (.Name x pos') X.env)) (Q:=λ_ s'=>SP X pins D .next s') rfl hs hcl S.kind S.loc
  (zaW (use:=some (assign (.Name x pos') X.env)) hc hi S.o hF hg he ko I h λs' H' l C m I' fC hm q=>?_)) (λ_ s' hq=>qU (qU hq)) λ_ _ e=>e)
 show wpAny _ X.A (assign (.Name x pos') X.env (.ref l)) _ _ s'
 refine p5 (Wk I' hN hi' (.inl hx) (show RelV (.ref l) (.ref l) from rfl) (λs2 I2 hsame=>?_) (.inr hx));have⟨a,hsb,ha⟩:=hsame;have neC:C≠a:=by
  rcases ha with rfl|ha
  ·exact fC.2.1
  ·exact λz=>fC.2.2.2.2.1 x a ha z.symm
 have hm2:s2.heap.Ns C m:=hm.sameBut hsb neC;refine⟨m,hm2,λh' hs'=>⟨_,H',?_,q⟩⟩;exact I2.turned (t':=s2.toks) (λb o hb e=>hs'.extBut b o hb e) fC.1 fC.2.1 fC.2.2.2.1 fC.2.2.2.2.1 fC.2.2.2.2.2
end
section
variable{X:Cx}
def ziJ(hc:X.calm=true):vF X (.builtin "sum") (λxs H Q=>∃(p:AdX)(ns:List Int),xs=[.ref p]/\SqL X.K H p (ns.map V.int)/\Q (.int ns.sum) H):=by
 intro pins s σ H xs us Q I r h;obtain⟨p,ns,rfl,hS,q⟩:=h;obtain⟨u,rfl,ru⟩:=vals1 r;cases ru;have⟨its,rv,pl,hz⟩:=I.list hS;have hi:IntsAre its ns:=intsAre_of rv;have es:(numsOf its.toArray.toList).sum=ns.sum:=by rw[show its.toArray.toList=its from rfl,hi.numsOf]
 have⟨zs,e⟩:=hi.allInts.items;rw[e,nums_intItems] at es;have hL:=pl.isList;rw[e] at hL;refine sum_intListG (I.ok.hd hc) hL λh' tk t' hk=>?_
 rw[preSum_eq,nV (by simp)];exact⟨.int ns.sum,H,I.kept hk,⟨t',by rw[es]⟩,q⟩
end
def y9(t:Bool)(h:Heap)(a:AdX)(vs:Array Value):Prop:=match t with |true=>h.IsTuple a vs|false=>h.IsList a vs
def y0(t:Bool)(h:Heap)(j a:AdX)(i:Nat):Prop:=match t with |true=>h.IsTupleIter j a i|false=>h.IsListIter j a i
def um(t:Bool):String:=match t with |true=>"tuple_iterator" |false=>"list_iterator"
def y9.stay{t:Bool}{h h':Heap}{a:AdX}{vs:Array Value}(x:y9 t h a vs)(e:∀o,h.get? a=some o->h'.get? a=some o):y9 t h' a vs:=by
 cases t
 ·obtain⟨o,ho,r⟩:=(show h.IsList a vs from x);exact(show h'.IsList a vs from⟨o,e _ ho,r⟩)
 ·obtain⟨o,ho,r⟩:=(show h.IsTuple a vs from x);exact(show h'.IsTuple a vs from⟨o,e _ ho,r⟩)
def y0.stay{t:Bool}{h h':Heap}{j a:AdX}{i:Nat}(x:y0 t h j a i)(e:∀o,h.get? j=some o->h'.get? j=some o):y0 t h' j a i:=by
 cases t
 ·obtain⟨o,ho,r⟩:=(show h.IsListIter j a i from x);exact(show h'.IsListIter j a i from⟨o,e _ ho,r⟩)
 ·obtain⟨o,ho,r⟩:=(show h.IsTupleIter j a i from x);exact(show h'.IsTupleIter j a i from⟨o,e _ ho,r⟩)
def y0.obj{t:Bool}{h:Heap}{j a:AdX}{i:Nat}(x:y0 t h j a i):∃o,h.get? j=some o/\∀v,o.data≠ .cell v:=by
 cases t
 ·obtain⟨o,ho,hc,hd⟩:=(show h.IsListIter j a i from x);exact⟨o,ho,λv z=>by rw[hd] at z;cases z⟩
 ·obtain⟨o,ho,hc,hd⟩:=(show h.IsTupleIter j a i from x);exact⟨o,ho,λv z=>by rw[hd] at z;cases z⟩
def y9.lt{t:Bool}{h:Heap}{a:AdX}{vs:Array Value}(x:y9 t h a vs):a<h.objs.size:=by
 cases t
 ·obtain⟨o,ho,_⟩:=(show h.IsList a vs from x);exact qO ho
 ·obtain⟨o,ho,_⟩:=(show h.IsTuple a vs from x);exact qO ho
section
variable{prog:Program}{w:World}{A:Around}{E:VSx}{s:ShX}
def J4{t:Bool}{j a:AdX}{i:Nat}{vs:Array Value}{v:Value}{Q:VSx}(hd:y0 t s.heap j a i)(hs:y9 t s.heap a vs)(hv:vs[i]?=some v)(hQ:∀h',y0 t h' j a (i+1)->Heap.SameBut j s.heap h'->Q v { s with heap:=h' }):wpAny (model prog w) A (Builtin.SmallTypes.nextOf (.ref j)) Q E s:=by
 cases t
 ·exact wpAny_nextOf_list_item (show s.heap.IsListIter j a i from hd) (show s.heap.IsList a vs from hs) hv hQ
 ·have hd':s.heap.IsTupleIter j a i:=hd;have⟨ob,hob,hcl,hda⟩:=id hd'
  obtain⟨oa,hoa,_,na,hdt⟩:=(show s.heap.IsTuple a vs from hs);unfold Builtin.SmallTypes.nextOf;refine qt (mM (name:=Str.ofString "__next__") hd'.typeIs mw (n8 mw hd'.typeIs F.entry_tuple_iterator_next ?_ (F.args_tuple_iterator_next_1 _)));show wpAny _ _ (field (.ref j) 0 >>= _) _ _ s
  refine qt (gL hob hda (x:=.ref a) rfl ?_);show wpAny _ _ (if (Value.ref a==Value.none)=true then _ else _) _ _ s
  rw[qo (show ¬((Value.ref a==Value.none)=true) from qL)];show wpAny _ _ (field (.ref j) 1 >>= _) _ _ s
  refine qt (gL hob hda (x:=.int i 0) rfl ?_);show wpAny _ _ (seqItems? (.ref a) >>= _) _ _ s
  refine qt (g6 hoa hdt ?_);simp only [kf,hv];refine qt (wpAny_setField hob hda (by simp) (qU ⟨v,rfl,qU (hQ _ ?_ (Heap.SameBut.update ..))⟩));show Heap.IsTupleIter _ j a (i+1)
  exact⟨_,Heap.get?_update_self _ hob (Obj.isFreed_of_fields (Obj.data_mapFields hda _)),(Obj.cls_mapFields ..).trans hcl,by rw[Obj.data_mapFields hda];simp[rawInt]⟩
def Ub{t:Bool}{j a:AdX}{i:Nat}{vs:Array Value}{Q:VSx}(hh:A.handled=none)(hd:y0 t s.heap j a i)(hs:y9 t s.heap a vs)(hv:vs[i]?=none)(hE:∀h' e,Heap.ExtBut j s.heap h'->(∃o,h'.get? e=some o/\o.cls=.type "StopIteration")->E (.ref e) { s with heap:=h' }):wpAny (model prog w) A (Builtin.SmallTypes.nextOf (.ref j)) Q E s:=by
 cases t
 ·exact wpAny_nextOf_list_end hh (show s.heap.IsListIter j a i from hd) (show s.heap.IsList a vs from hs) hv hE
 ·have hd':s.heap.IsTupleIter j a i:=hd;have⟨ob,hob,hcl,hda⟩:=id hd'
  obtain⟨oa,hoa,_,na,hdt⟩:=(show s.heap.IsTuple a vs from hs);unfold Builtin.SmallTypes.nextOf;refine qt (mM (name:=Str.ofString "__next__") hd'.typeIs mw (n8 mw hd'.typeIs F.entry_tuple_iterator_next ?_ (F.args_tuple_iterator_next_1 _)));show wpAny _ _ (field (.ref j) 0 >>= _) _ _ s
  refine qt (gL hob hda (x:=.ref a) rfl ?_);show wpAny _ _ (if (Value.ref a==Value.none)=true then _ else _) _ _ s
  rw[qo (show ¬((Value.ref a==Value.none)=true) from qL)];show wpAny _ _ (field (.ref j) 1 >>= _) _ _ s
  refine qt (gL hob hda (x:=.int i 0) rfl ?_);show wpAny _ _ (seqItems? (.ref a) >>= _) _ _ s
  refine qt (g6 hoa hdt ?_);simp only [kf,hv];refine qt (wpAny_rule (qt (wpAny_setField hob hda (by simp) ?_)));show wpAny _ _ ((newExc (.type "StopIteration") []) >>= _) _ _ _
  refine qt ?_;simp only [newExc,newTuple];refine qt (nX ?_ (by size_fits));refine qt (m:=firstArgMember _ _) (wpAny_of_eq (a:=Value.none) (by first |rfl|(simp only [firstArgMember]<;>rfl)) ?_);refine nX ?_ (by size_fits);simp only [raiseNew];refine qt (wpAny_handled ?_);first |rw[show A.in1.handled=none from hh]|rw[hh]
  refine qt (qU (wpAny_throw ?_));exact hE _ _ (((Heap.SameBut.update ..).extBut.push _).push _) ⟨_,qJ _ rfl,rfl⟩
end
section
variable{prog:Program}{w:World}{A:Around}{E:VSx}{s:ShX}
def zkB{t1 t2:Bool}{z ti tu j1 j2 a1 a2:AdX}{k1 k2:Nat}{xs ys:Array Value}{x y b1 b2:Value}{Q:VSx}(D:ZipApart z ti tu j1 j2 a1 a2)(hz:IsZip s.heap z ti tu .none)(hti:IsPair s.heap ti (.ref j1) (.ref j2))(htu:IsPair s.heap tu b1 b2)(d1:y0 t1 s.heap j1 a1 k1)(d2:y0 t2 s.heap j2 a2 k2)(c1:y9 t1 s.heap a1 xs)(c2:y9 t2 s.heap a2 ys)(hx:xs[k1]?=some x)(hy:ys[k2]?=some y)(hQ:∀h',IsZip h' z ti tu (rawInt s.heap.objs.size)->IsPair h' tu x y->y0 t1 h' j1 a1 (k1+1)->y0 t2 h' j2 a2 (k2+1)->IsPair h' s.heap.objs.size x y->h'.objs.size=s.heap.objs.size+1->
   (∀c o,c≠z->c≠tu->c≠j1->c≠j2->s.heap.get? c=some o->h'.get? c=some o)->Q (.ref s.heap.objs.size) { s with heap:=h' }):wpAny (model prog w) A (Builtin.«zip.__next__» ⟨[.ref z],[]⟩) (λfin s'=>∃v,fin=.done (.ret v)/\Q v s') E s:=by
 show wpAny _ _ (field (.ref z) 2 >>= _) _ _ s
 refine qt (gL hz rfl (x:=.bool false) rfl ?_);show wpAny _ _ (field (.ref z) 3 >>= _) _ _ s
 refine qt (gL hz rfl (x:=.ref ti) rfl ?_);refine qt (g6 hti rfl ?_);show wpAny _ _ (Builtin.SmallTypes.ownedTupleIsFree (.ref z) >>= _) _ _ s
 refine qt ?_;unfold Builtin.SmallTypes.ownedTupleIsFree;refine qt (gL hz rfl (x:=.none) rfl (qU ?_));simp only [pJ];refine qt (wpAny_rule ?_);refine qt (gL hz rfl (x:=.ref tu) rfl ?_);refine qt (me hz (by simp) λg1 z1 e1=>?_);replace z1:IsZip g1 z ti tu .ellipsis:=z1;refine qt ?_;simp only [List.zipIdx_cons,List.zipIdx_nil,ni,pj];refine qt (qt (pR ?_));show wpAny _ _ (Builtin.SmallTypes.nextOf (.ref j1) >>= _) _ _ _
 refine qt (J4 (d1.stay λo e=>e1.extBut _ _ D.i1z e) (c1.stay λo e=>e1.extBut _ _ D.l1z e) hx λg2 d1' e2=>qU ?_);have tu2:IsPair g2 tu b1 b2:=e2.extBut _ _ D.TOi1 (e1.extBut _ _ D.TOz htu);refine qt (g6 tu2 rfl ?_);refine qt (pK tu2 λg3 tu3 e3=>?_);replace tu3:IsPair g3 tu x b2:=tu3;refine qt (wpAny_letGo (qU ?_));refine qt (qt (pR ?_));show wpAny _ _ (Builtin.SmallTypes.nextOf (.ref j2) >>= _) _ _ _
 refine qt (J4 (d2.stay λo e=>e3.extBut _ _ D.TOi2.symm (e2.extBut _ _ D.i12.symm (e1.extBut _ _ D.i2z e))) (c2.stay λo e=>e3.extBut _ _ D.l2TO (e2.extBut _ _ D.l2i1 (e1.extBut _ _ D.l2z e))) hy λg4 d2' e4=>qU ?_);have tu4:IsPair g4 tu x b2:=e4.extBut _ _ D.TOi2 tu3;refine qt (g6 tu4 rfl ?_);refine qt (pK tu4 λg5 tu5 e5=>?_);replace tu5:IsPair g5 tu x y:=tu5;refine qt (wpAny_letGo (qU (qU ?_)));refine qt (g6 tu5 rfl ?_);refine qt (wpAny_newTuple ?_);have size5:g5.objs.size=s.heap.objs.size:=by rw[e5.1,e4.1,e3.1,e2.1,e1.1]
 have z5:IsZip g5 z ti tu .ellipsis:=e5.extBut _ _ D.TOz.symm (e4.extBut _ _ D.i2z.symm (e3.extBut _ _ D.TOz.symm (e2.extBut _ _ D.i1z.symm z1)));have keep5:∀c o,c≠z->c≠tu->c≠j1->c≠j2->s.heap.get? c=some o->g5.get? c=some o:=λc o n1 n2 n3 n4 e=>
  e5.extBut _ _ n2 (e4.extBut _ _ n4 (e3.extBut _ _ n2 (e2.extBut _ _ n3 (e1.extBut _ _ n1 e))))
 have d15:y0 t1 g5 j1 a1 (k1+1):=((d1'.stay λo e=>e3.extBut _ _ D.TOi1.symm e).stay λo e=>e4.extBut _ _ D.i12 e).stay λo e=>e5.extBut _ _ D.TOi1.symm e
 have d25:y0 t2 g5 j2 a2 (k2+1):=d2'.stay λo e=>e5.extBut _ _ D.TOi2.symm e
 have zlt:z<g5.objs.size:=qO z5;show wpAny _ _ (Builtin.SmallTypes.ownedTupleHandOut (.ref z) (.ref g5.objs.size) >>= _) _ _ _
 refine qt ?_;unfold Builtin.SmallTypes.ownedTupleHandOut;have z6:IsZip (g5.push { cls:=.type "tuple",data:=.seq #[x,y] }) z ti tu .ellipsis:=qm _ z5;refine qt (me z6 (by simp) λg7 z7 e7=>?_);replace z7:IsZip g7 z ti tu (rawInt g5.objs.size):=z7;refine me z7 (by simp) λg8 z8 e8=>?_
 replace z8:IsZip g8 z ti tu (rawInt g5.objs.size):=z8
 have up:∀c o,c≠z->g5.get? c=some o->g8.get? c=some o:=λc o n e=>e8.extBut _ _ n (e7.extBut _ _ n (qm _ e))
 have p8:IsPair g8 g5.objs.size x y:=e8.extBut _ _ (nt zlt) (e7.extBut _ _ (nt zlt) (qJ _ rfl));have size8:g8.objs.size=g5.objs.size+1:=by rw[e8.1,e7.1,gw]
 rw[size5] at z8 p8 size8;refine qU ⟨_,rfl,?_⟩;show Q (.ref g5.objs.size) _
 rw[size5];exact hQ g8 z8 (up _ _ D.TOz tu5) (d15.stay λo e=>up _ o D.i1z e) (d25.stay λo e=>up _ o D.i2z e) p8 size8 λc o n1 n2 n3 n4 e=>up c o n1 (keep5 c o n1 n2 n3 n4 e)
def zkd{t1 t2:Bool}{z ti tu j1 j2 a1 a2:AdX}{k1 k2:Nat}{xs ys:Array Value}{b1 b2:Value}{Q:Fin->Shared->Prop}(hh:A.handled=none)(D:ZipApart z ti tu j1 j2 a1 a2)(hz:IsZip s.heap z ti tu .none)(hti:IsPair s.heap ti (.ref j1) (.ref j2))(htu:IsPair s.heap tu b1 b2)(d1:y0 t1 s.heap j1 a1 k1)(d2:y0 t2 s.heap j2 a2 k2)(c1:y9 t1 s.heap a1 xs)(c2:y9 t2 s.heap a2 ys)(hend:xs[k1]?=none\/ys[k2]?=none)(hE:∀h' e,(∀c o,c≠z->c≠tu->c≠j1->c≠j2->s.heap.get? c=some o->h'.get? c=some o)->(∃o,h'.get? e=some o/\o.cls=.type "StopIteration")->E (.ref e) { s with heap:=h' }):wpAny (model prog w) A (Builtin.«zip.__next__» ⟨[.ref z],[]⟩) Q E s:=by
 show wpAny _ _ (field (.ref z) 2 >>= _) _ _ s
 refine qt (gL hz rfl (x:=.bool false) rfl ?_);show wpAny _ _ (field (.ref z) 3 >>= _) _ _ s
 refine qt (gL hz rfl (x:=.ref ti) rfl ?_);refine qt (g6 hti rfl ?_);show wpAny _ _ (Builtin.SmallTypes.ownedTupleIsFree (.ref z) >>= _) _ _ s
 refine qt ?_;unfold Builtin.SmallTypes.ownedTupleIsFree;refine qt (gL hz rfl (x:=.none) rfl (qU ?_));simp only [pJ];refine qt (wpAny_rule ?_);refine qt (gL hz rfl (x:=.ref tu) rfl ?_);refine qt (me hz (by simp) λg1 z1 e1=>?_);replace z1:IsZip g1 z ti tu .ellipsis:=z1;refine qt ?_;simp only [List.zipIdx_cons,List.zipIdx_nil,ni,pj];refine qt (qt (pR ?_));show wpAny _ _ (Builtin.SmallTypes.nextOf (.ref j1) >>= _) _ _ _
 cases hx:xs[k1]? with
 |none=>
  refine qt (Ub hh (d1.stay λo e=>e1.extBut _ _ D.i1z e) (c1.stay λo e=>e1.extBut _ _ D.l1z e) hx λg2 e e2 he=>?_);have⟨oe,hoe,hce⟩:=he;have z2:IsZip g2 z ti tu .ellipsis:=e2 _ _ D.i1z.symm z1;have nez:e≠z:=λq=>by subst q;rw[z2] at hoe;cases hoe;simp at hce
  refine me z2 (by simp) λg3 _ e3=>hE g3 e (λc o n1 _ n3 _ q=>e3.extBut _ _ n1 (e2 _ _ n3 (e1.extBut _ _ n1 q))) ⟨oe,e3.extBut _ _ nez hoe,hce⟩
 |some x=>
  have hy:ys[k2]?=none:=hend.resolve_left (by rw[hx];simp);refine qt (J4 (d1.stay λo e=>e1.extBut _ _ D.i1z e) (c1.stay λo e=>e1.extBut _ _ D.l1z e) hx λg2 d1' e2=>qU ?_);have tu2:IsPair g2 tu b1 b2:=e2.extBut _ _ D.TOi1 (e1.extBut _ _ D.TOz htu)
  refine qt (g6 tu2 rfl ?_);refine qt (pK tu2 λg3 tu3 e3=>?_);refine qt (wpAny_letGo (qU ?_));refine qt (qt (pR ?_));show wpAny _ _ (Builtin.SmallTypes.nextOf (.ref j2) >>= _) _ _ _
  refine qt (Ub hh (d2.stay λo e=>e3.extBut _ _ D.TOi2.symm (e2.extBut _ _ D.i12.symm (e1.extBut _ _ D.i2z e))) (c2.stay λo e=>e3.extBut _ _ D.l2TO (e2.extBut _ _ D.l2i1 (e1.extBut _ _ D.l2z e))) hy λg4 e e4 he=>?_);have⟨oe,hoe,hce⟩:=he;have z4:IsZip g4 z ti tu .ellipsis:=e4 _ _ D.i2z.symm (e3.extBut _ _ D.TOz.symm (e2.extBut _ _ D.i1z.symm z1));have nez:e≠z:=λq=>by subst q;rw[z4] at hoe;cases hoe;simp at hce
  refine me z4 (by simp) λg5 _ e5=>hE g5 e (λc o n1 n2 n3 n4 q=>e5.extBut _ _ n1 (e4 _ _ n4 (e3.extBut _ _ n2 (e2.extBut _ _ n3 (e1.extBut _ _ n1 q))))) ⟨oe,e5.extBut _ _ nez hoe,hce⟩
structure zf0(t1 t2:Bool)(z ti tu j1 j2 a1 a2:AdX)(i:Nat)(h:Heap):Prop where
 zp:IsZip h z ti tu .none
 ip:IsPair h ti (.ref j1) (.ref j2)
 op:∃b1 b2,IsPair h tu b1 b2
 d1:y0 t1 h j1 a1 i
 d2:y0 t2 h j2 a2 i
def zjE{t1 t2:Bool}{z ti tu j1 j2 a1 a2:AdX}{i:Nat}{xs ys:Array Value}{x y:Value}{Q:Option Value->Shared->Prop}(D:ZipApart z ti tu j1 j2 a1 a2)(S:zf0 t1 t2 z ti tu j1 j2 a1 a2 i s.heap)(c1:y9 t1 s.heap a1 xs)(c2:y9 t2 s.heap a2 ys)(hx:xs[i]?=some x)(hy:ys[i]?=some y)(hQ:∀h',IsZip h' z ti tu (rawInt s.heap.objs.size)->IsPair h' tu x y->y0 t1 h' j1 a1 (i+1)->y0 t2 h' j2 a2 (i+1)->IsPair h' s.heap.objs.size x y->h'.objs.size=s.heap.objs.size+1->
   (∀c o,c≠z->c≠tu->c≠j1->c≠j2->s.heap.get? c=some o->h'.get? c=some o)->Q (some (.ref s.heap.objs.size)) { s with heap:=h' }):wpAny (model prog w) A (pyNext (.ref z)) Q E s:=by
 have⟨b1,b2,hb⟩:=S.op;have hT:s.TypeIs (.ref z) "zip":=⟨_,S.zp,rfl⟩;unfold pyNext;exact qt (wpAny_attempt (mM (name:=Str.ofString "__next__") hT pC (n8 pC hT F.entry_zip_next
  (zkB D S.zp S.ip hb S.d1 S.d2 c1 c2 hx hy λh' q1 q2 q3 q4 q5 q6 q7=>qU (hQ h' q1 q2 q3 q4 q5 q6 q7)) (F.args_zip_next_1 _))))
def zkJ{t1 t2:Bool}{z ti tu j1 j2 a1 a2:AdX}{i:Nat}{xs ys:Array Value}{Q:Option Value->Shared->Prop}(hh:A.handled=none)(D:ZipApart z ti tu j1 j2 a1 a2)(S:zf0 t1 t2 z ti tu j1 j2 a1 a2 i s.heap)(c1:y9 t1 s.heap a1 xs)(c2:y9 t2 s.heap a2 ys)(hend:xs[i]?=none\/ys[i]?=none)(hQ:∀h',(∀c o,c≠z->c≠tu->c≠j1->c≠j2->s.heap.get? c=some o->h'.get? c=some o)->Q none { s with heap:=h' }):wpAny (model prog w) A (pyNext (.ref z)) Q E s:=by
 have⟨b1,b2,hb⟩:=S.op;have hT:s.TypeIs (.ref z) "zip":=⟨_,S.zp,rfl⟩;unfold pyNext;refine qt (wpAny_attempt (mM (name:=Str.ofString "__next__") hT pC (n8 pC hT F.entry_zip_next
  (zkd hh D S.zp S.ip hb S.d1 S.d2 c1 c2 hend λh' e hk he=>?_) (F.args_zip_next_1 _))))
 have⟨o,ho,hc⟩:=he;exact qt (wpAny_isInstance (T:="StopIteration") (b:=true) ⟨o,ho,hc⟩ isSubtype_stop (qU (hQ _ hk)))
end
def JJ{prog:Program}{w:World}{A:Around}{E:VSx}{s:ShX}{t:Bool}{a:AdX}{vs:Array Value}{Q:VSx}(c:y9 t s.heap a vs)(hQ:Q (.ref s.heap.objs.size) { s with heap:=s.heap.push { cls:=.type (um t),data:=.fields #[.ref a,.int 0 0] } }):wpAny (model prog w) A (pyIter (.ref a)) Q E s:=by
 cases t
 ·exact wpAny_pyIter_list (show s.heap.IsList a vs from c) hQ
 ·exact wpAny_pyIter_tuple (show s.heap.IsTuple a vs from c) hQ
def y9.push{t:Bool}{h:Heap}{a:AdX}{vs:Array Value}(x:y9 t h a vs)(o:Obj):y9 t (h.push o) a vs:=x.stay λ_ e=>qm _ e
abbrev zp1(t1:Bool)(h:Heap)(a1:AdX):Heap:=h.push { cls:=.type (um t1),data:=.fields #[.ref a1,.int 0 0] }
abbrev zp2(t1 t2:Bool)(h:Heap)(a1 a2:AdX):Heap:=(zp1 t1 h a1).push { cls:=.type (um t2),data:=.fields #[.ref a2,.int 0 0] }
abbrev zp3(t1 t2:Bool)(h:Heap)(a1 a2:AdX):Heap:=(zp2 t1 t2 h a1 a2).push { cls:=.type "tuple",data:=.seq #[.ref h.objs.size,.ref (zp1 t1 h a1).objs.size] }
abbrev zp4(t1 t2:Bool)(h:Heap)(a1 a2:AdX):Heap:=(zp3 t1 t2 h a1 a2).push { cls:=.type "tuple",data:=.seq #[.none,.none] }
abbrev zp5(t1 t2:Bool)(h:Heap)(a1 a2:AdX):Heap:=(zp4 t1 t2 h a1 a2).push { cls:=.type "zip",data:=.fields #[.none,.bool false,.bool false,.ref (zp2 t1 t2 h a1 a2).objs.size,.ref (zp3 t1 t2 h a1 a2).objs.size] }
def zmd(t1 t2:Bool)(a1 a2:AdX)(xs ys:Array Value):Meets (Builtin.«zip.__new__» ⟨[.type "zip",.ref a1,.ref a2],[]⟩) (λ_ R s=>y9 t1 s.heap a1 xs/\y9 t2 s.heap a2 ys/\
   R (.ok (.ret (.ref (zp4 t1 t2 s.heap a1 a2).objs.size))) { s with heap:=zp5 t1 t2 s.heap a1 a2 }):=.of_wp λprog w A R s h=>by
  have⟨hp,g,d,tk,os⟩:=s;obtain⟨c1,c2,h⟩:=h;have hsub:=sub_zip;have q1:y9 t1 (Shared.heap ⟨hp,g,d,tk,os⟩) a1 xs:=c1
  have q2:y9 t2 (Shared.heap ⟨hp.push { cls:=.type (um t1),data:=.fields #[.ref a1,.int 0 0] },g,d,tk,os⟩) a2 ys:=y9.push c2 _;wp_walk using JJ q1,JJ q2;exact⟨_,rfl,h⟩
def Y3{t:Bool}{h:Heap}{j a:AdX}(e:h.get? j=some { cls:=.type (um t),data:=.fields #[.ref a,.int 0 0] }):y0 t h j a 0:=by
 cases t
 ·exact(show h.IsListIter j a 0 from⟨_,e,rfl,rfl⟩)
 ·exact(show h.IsTupleIter j a 0 from⟨_,e,rfl,rfl⟩)
def zkE{prog:Program}{w:World}{A:Around}{E:VSx}{s:ShX}{t1 t2:Bool}{a1 a2:AdX}{xs ys:Array Value}{Q:VSx}(c1:y9 t1 s.heap a1 xs)(c2:y9 t2 s.heap a2 ys)(h:∀h',zf0 t1 t2 (s.heap.objs.size+4) (s.heap.objs.size+2) (s.heap.objs.size+3) s.heap.objs.size (s.heap.objs.size+1) a1 a2 0 h'->h'.objs.size=s.heap.objs.size+5->
   (∀c o,s.heap.get? c=some o->h'.get? c=some o)->Q (.ref (s.heap.objs.size+4)) { s with heap:=h' }):wpAny (model prog w) A (call (.type "zip") [.ref a1,.ref a2]) Q E s:=by
 refine callType_new F.called_zip (by decide) (F.typeCall_zip_2 _ _) (F.newCall_zip_2 _ _) (λobj=>F.args_object_init_3 obj _ _) F.entry_zip_new (zmd t1 t2 a1 a2 xs ys) ⟨c1,c2,?_⟩;have z1:(zp1 t1 s.heap a1).objs.size=s.heap.objs.size+1:=gw ..;have z2:(zp2 t1 t2 s.heap a1 a2).objs.size=s.heap.objs.size+2:=by rw[gw,z1]
 have z3:(zp3 t1 t2 s.heap a1 a2).objs.size=s.heap.objs.size+3:=by rw[gw,z2]
 have z4:(zp4 t1 t2 s.heap a1 a2).objs.size=s.heap.objs.size+4:=by rw[gw,z3]
 have z5:(zp5 t1 t2 s.heap a1 a2).objs.size=s.heap.objs.size+5:=by rw[gw,z4]
 have g5:(zp5 t1 t2 s.heap a1 a2).get? (zp4 t1 t2 s.heap a1 a2).objs.size=some _:=qJ _ rfl;have g4:(zp5 t1 t2 s.heap a1 a2).get? (zp3 t1 t2 s.heap a1 a2).objs.size=some _:=qm _ (qJ _ rfl)
 have g3:(zp5 t1 t2 s.heap a1 a2).get? (zp2 t1 t2 s.heap a1 a2).objs.size=some _:=qm _ (qm _ (qJ _ rfl));have g2:(zp5 t1 t2 s.heap a1 a2).get? (zp1 t1 s.heap a1).objs.size=some _:=qm _ (qm _ (qm _ (qJ _ rfl)))
 have g1:(zp5 t1 t2 s.heap a1 a2).get? s.heap.objs.size=some _:=qm _ (qm _ (qm _ (qm _ (qJ _ rfl))));show _/\_
 rw[z2,z3,z4] at g5;rw[z1,z2] at g3;rw[z3] at g4;rw[z1] at g2;rw[z4];exact⟨⟨_,g5,rfl⟩,h _ ⟨g5,g3,⟨_,_,g4⟩,Y3 g1,Y3 g2⟩ z5 λc o q=>
  qm _ (qm _ (qm _ (qm _ (qm _ q))))⟩
def SqB(K:FRx)(t:Bool)(H:Hp)(a:AdX)(xs:List V):Prop:=match t with |true=>SqT K H a xs|false=>SqL K H a xs
def Same.sqB{K:FRx}{t:Bool}{H H':Hp}{a:AdX}{xs:List V}(e:Same H H')(h:SqB K t H a xs):SqB K t H' a xs:=by
 cases t
 ·exact(show SqL K H' a xs from e.seq h)
 ·exact(show SqT K H' a xs from e.tup h)
def Itz(K:FRx)(t1 t2:Bool)(a b:AdX):It:=⟨λi H=>∃xs ys x y,SqB K t1 H a xs/\SqB K t2 H b ys/\xs[i]?=some x/\ys[i]?=some y,
  λi H v H'=>∃p,v=.ref p/\H p=none/\∀xs ys x y,SqB K t1 H a xs->SqB K t2 H b ys->xs[i]?=some x->ys[i]?=some y->H'=upd H p (.tup [x,y]),
  λi H=>∃xs ys,SqB K t1 H a xs/\SqB K t2 H b ys/\(xs.length<=i\/ys.length<=i)⟩
section
variable{X:Cx}{pins:PNx}{σ:St}{H:Hp}{s:ShX}
def Inv.sqB(I:Inv X pins σ H s){t:Bool}{a:AdX}{xs:List V}(h:SqB X.K t H a xs):∃its:List Value,Vals xs its/\y9 t s.heap a its.toArray:=by
 cases t
 ·obtain⟨its,r,pl,_⟩:=I.list (show SqL X.K H a xs from h);exact⟨its,r,(show s.heap.IsList a its.toArray from pl.isList)⟩
 ·obtain⟨its,r,pl,_⟩:=I.tuple (show SqT X.K H a xs from h);exact⟨its,r,(show s.heap.IsTuple a its.toArray from pl)⟩
def Inv.zb9(I:Inv X pins σ H s){t:Bool}{a:AdX}{xs ys:List V}(h:SqB X.K t H a xs)(h':SqB X.K t H a ys):xs=ys:=by
 cases t
 ·exact I.zdD (show SqL X.K H a xs from h) h'
 ·exact I.zbc (show SqT X.K H a xs from h) h'
def Inv.moved{h':Heap}{t':Nat}{ch:LAd}(I:Inv X pins σ H s)(hf:∀b∈ch,Jh X pins H b)(k:∀b o,b∉ch->s.heap.get? b=some o->h'.get? b=some o):Inv X pins σ H { s with heap:=h',toks:=t' }:=by
 have tr:∀b u,H b=some u->b∉ch:=λb u e z=>by rw[(hf b z).1] at e;cases e
 refine I.step (g':=s.gens) (d':=s.drawn) (ch:=ch) (λb hb=>⟨(hf b hb).2.2.2.1,(hf b hb).2.1,(hf b hb).2.2.2.2.1,(hf b hb).2.2.2.2.2⟩) (λb o _ _ hc e _=>k b o hc e) (λb o _ _ hc e _=>⟨o.slots,k b o hc e⟩) (λ_ _ _ _ n=>n)
  (λb o hc e=>⟨o,k b o hc e⟩) (λ_ _ e=>e) (λ_ _ _ e=>e) (λb ps e=>⟨#[],by rw[e];simp⟩) (λm hm=>?_) (λb u e=>?_) I.bare
 ·have⟨o,es,ep,ho,r⟩:=hm;exact⟨o,es,ep,k _ o (λz=>(hf _ z).2.1 rfl) ho,r⟩
 ·refine(I.hok b u e).stay (λc v hc q=>k c v ?_ q) (λ_ q=>q) λ_ _ q=>q
  rcases hc with z|z
  ·rw[z];exact tr b u e
  ·exact tr c _ z
def Inv.adopt{p:AdX}{o:HO}(I:Inv X pins σ H s)(hf:Jh X pins H p)(new:vv X.prog X.w (upd H p o) s.heap p o):Inv X pins σ (upd H p o) s:=by
 have tr:∀b u,H b=some u->b≠p:=λb u e z=>by rw[z,hf.1] at e;cases e
 refine I.step (h':=s.heap) (g':=s.gens) (d':=s.drawn) (t':=s.toks) (ch:=[p]) (λb hb=>?_) (λb o _ _ _ e _=>e) (λb o _ _ _ e _=>⟨o.slots,e⟩) (λb o hc _ n=>?_)
  (λb o _ e=>⟨o,e⟩) (λb xs e=>by rw[zV (tr b _ e)];exact e) (λb u xs e=>by rw[zV (tr b _ e)];exact e) (λb ps e=>⟨#[],by rw[zV (tr b _ e),e];simp⟩) (λm hm=>hm) (λb u e=>?_) I.bare
 ·have e:b=p:=by simpa using hb
  subst e;exact⟨hf.2.2.2.1,hf.2.1,hf.2.2.2.2.1,hf.2.2.2.2.2⟩
 ·rw[zV (λz=>hc (by simp[z]))];exact n
 ·by_cases hb:b=p
  ·subst hb;rw[zH] at e;cases e;exact new
  ·rw[zV hb] at e;exact(I.hok b u e).stay (λc v _ q=>q) (λc q=>by rw[zV (tr c _ q)];exact q) λc xs q=>by rw[zV (tr c _ q)];exact q
end
def wY{xs:List V}{its:LVl}(r:Vals xs its){i:Nat}{x:V}(h:xs[i]?=some x):∃u,its.toArray[i]?=some u/\RelV x u:=by
 have⟨u,h1,h2⟩:=r.get h;exact⟨u,by simpa using h1,h2⟩
def ziU{P:Program}{w:World}{K:FRx}{es:List Expr}{kk:Nat}{tp:Pos}{t1 t2:Bool}{z ti tu j1 j2 a b:AdX}(D:ZipApart z ti tu j1 j2 a b):Turn P w K (.Tuple es kk tp) (Itz K t1 t2 a b) [z,ti,tu,j1,j2] z (λi h=>zf0 t1 t2 z ti tu j1 j2 a b i h) where
 mem:=by simp
 obj:=λi h S c hc=>by
  simp only [qx,k4,mD] at hc;rcases hc with rfl|rfl|rfl|rfl|rfl
  ·exact⟨_,S.zp,λv q=>by cases q⟩
  ·exact⟨_,S.ip,λv q=>by cases q⟩
  ·have⟨b1,b2,e⟩:=S.op;exact⟨_,e,λv q=>by cases q⟩
  ·exact S.d1.obj
  ·exact S.d2.obj
 keep:=λi h h' S k=>by
  have⟨b1,b2,e⟩:=S.op;exact⟨k z (by simp) _ S.zp,k ti (by simp) _ S.ip,⟨b1,b2,k tu (by simp) _ e⟩,S.d1.stay λo q=>k j1 (by simp) o q,S.d2.stay λo q=>k j2 (by simp) o q⟩
 item:=λX hp hw hK hc i pins s σ H E I hf S go=>by
  subst hp hw hK;have⟨xs,ys,x,y,h1,h2,hx,hy⟩:=go;have⟨us,ru,c1⟩:=I.sqB h1;have⟨ws,rw',c2⟩:=I.sqB h2;have⟨u,eu,hu⟩:=wY ru hx;have⟨v,ev,hv⟩:=wY rw' hy;refine zjE D S c1 c2 eu ev λh' q1 q2 q3 q4 q5 q6 q7=>⟨_,rfl,?_⟩
  refine wpAny_letOwnedTupleGo_zip q1 λh'' z2 hs=>?_
  have lt:∀{c:AdX} {o:Obj},s.heap.get? c=some o->s.heap.objs.size≠c:=λe=>nt (qO e)
  have nz:s.heap.objs.size≠z:=lt S.zp;have ntu:s.heap.objs.size≠tu:=by have⟨_,_,e⟩:=S.op;exact lt e
  have nj1:s.heap.objs.size≠j1:=by have⟨o,e,_⟩:=S.d1.obj;exact lt e
  have nj2:s.heap.objs.size≠j2:=by have⟨o,e,_⟩:=S.d2.obj;exact lt e
  have I1:Inv X pins σ H { s with heap:=h'',toks:=s.toks }:=I.moved (ch:=[z,tu,j1,j2]) (λc hc'=>hf c (by
    simp only [qx,k4,mD] at hc' ⊢;rcases hc' with rfl|rfl|rfl|rfl<;>simp)) λc o hc' e=>by
   simp only [qx,k4,mD,not_or] at hc';exact hs.extBut _ _ hc'.1 (q7 c o hc'.1 hc'.2.1 hc'.2.2.1 hc'.2.2.2 e)
  have pT:IsPair h'' s.heap.objs.size u v:=hs.extBut _ _ nz q5;have fT:Jh X pins H s.heap.objs.size:=I.zb4 (qf _) (I.hok.fresh (qf _))
  have I2:Inv X pins σ (upd H s.heap.objs.size (.tup [x,y])) { s with heap:=h'',toks:=s.toks }:=by
   refine I1.adopt fT ⟨by show 2<=sizeLine;decide,[u,v],.cons hu (.cons hv .nil),?_⟩;exact⟨_,pT,rfl,_,rfl⟩
  refine⟨.ref s.heap.objs.size,_,I2,rfl,⟨_,rfl,fT.1,λxs' ys' x' y' g1 g2 ex ey=>?_⟩,?_,λc hc'=>?_⟩
  ·rw[I.zb9 g1 h1] at ex;rw[I.zb9 g2 h2] at ey;rw[hx] at ex;rw[hy] at ey;cases ex;cases ey;rfl
  ·exact⟨z2,hs.extBut _ _ D.TIz (q7 _ _ D.TIz D.TITO D.TIi1 D.TIi2 S.ip),⟨_,_,hs.extBut _ _ D.TOz q2⟩,q3.stay λo e=>hs.extBut _ _ D.i1z e,q4.stay λo e=>hs.extBut _ _ D.i2z e⟩
  ·have ne:c≠s.heap.objs.size:=by
    simp only [qx,k4,mD] at hc';rcases hc' with rfl|rfl|rfl|rfl|rfl
    ·exact nz.symm
    ·exact(lt S.ip).symm
    ·exact ntu.symm
    ·exact nj1.symm
    ·exact nj2.symm
   rw[zV ne];exact(hf c hc').1
 done:=λX hp hw hK hc i pins s σ H E I hf S st=>by
  subst hp hw hK;have⟨xs,ys,h1,h2,hend⟩:=st;have⟨us,ru,c1⟩:=I.sqB h1;have⟨ws,rw',c2⟩:=I.sqB h2;have l1:=ru.length;have l2:=rw'.length
  refine zkJ (I.ok.hd hc) D S c1 c2 ?_ λh' q=>⟨rfl,?_⟩
  ·rcases hend with g|g
   ·exact .inl (by simp;omega)
   ·exact .inr (by simp;omega)
  ·refine I.moved (t':=s.toks) (ch:=[z,tu,j1,j2]) (λc hc'=>hf c ?_) λc o hc' e=>?_
   ·simp only [qx,k4,mD] at hc' ⊢;rcases hc' with rfl|rfl|rfl|rfl<;>simp
   ·simp only [qx,k4,mD,not_or] at hc';exact q c o hc'.1 hc'.2.1 hc'.2.2.1 hc'.2.2.2 e
 self:=λA i s Q E S q=>wpAny_pyIter_zip S.zp q
def zmG:bootBuiltins "zip"=some (.type "zip"):=by decide+kernel
def zn0(K:FRx)(t1 t2:Bool)(ta:TA):TI:=λσ H R=>ta σ H λvs H1=>∃a b,vs=[.ref a,.ref b]/\(∃xs,SqB K t1 H1 a xs)/\(∃ys,SqB K t2 H1 b ys)/\R (Itz K t1 t2 a b) H1
def zeD{X:Cx}{es:List Expr}{kk:Nat}{tp:Pos}(t1 t2:Bool){a b:Expr}{ta:TA}{p pos:Pos}(hg:Gl X "zip")(hm:X.mg "zip"=none)(ha:PA X [a,b] ta)(hs:starEach [a,b] X.env=[(false,eval a X.env),(false,eval b X.env)]:=by rfl)(hs2:starEach [b] X.env=[(false,eval b X.env)]:=by rfl):PI X (.Tuple es kk tp) (.Call (.Name "zip" p) [a,b] [] pos) (zn0 X.K t1 t2 ta):=by
 intro pins s σ H R I h;refine Call_ (UT I hg hm zmG (gE (thn (ha pos pins s σ H _ I h) λus s1 ⟨vs,H1,I1,r1,q1⟩=>?_) (by rw[hs,hs2]) (by rw[hs2];rfl)));have⟨a',b',e,⟨xs,h1⟩,⟨ys,h2⟩,q⟩:=q1;subst e;obtain⟨u,w',rfl,ru,rw'⟩:=vals2 r1;cases (show u=Value.ref a' from ru);cases (show w'=Value.ref b' from rw');have⟨its,_,c1⟩:=I1.sqB h1;have⟨its2,_,c2⟩:=I1.sqB h2;refine zkE c1 c2 λh' S hz hk=>?_
 have I2:Inv X pins σ H1 { s1 with heap:=h',toks:=s1.toks }:=I1.kept hk;refine wpAny_pyIter_zip S.zp ?_;refine⟨_,_,_,_,H1,rfl,I2,ziU (zipApart_new c1.lt c2.lt),S,λc hc=>?_,q⟩;simp only [qx,k4,mD] at hc;have ge:s1.heap.objs.size<=c:=by
  rcases hc with rfl|rfl|rfl|rfl|rfl
  ·exact ml _ 4
  ·exact ml _ 2
  ·exact ml _ 3
  ·exact qf _
  ·exact ml _ 1
 have f1:=I1.zb4 ge (I1.hok.fresh ge);exact f1
def Same.WZ{H H':Hp}{D:AdX}(e:Same H H')(h:H D=none)(o:HO):Same H (upd H' D o):=λb u q=>by
 rw[zV (jN q h)];exact e b u q
def ItB(K:FRx)(t:Bool)(a:AdX):It:=match t with |true=>Itt K a|false=>Itl K a
def znE(K:FRx)(tl:TE):TI:=λσ H R=>tl σ H λx H1=>∃a t,x=.ref a/\(∃xs,SqB K t H1 a xs)/\R (ItB K t a) H1
section
variable{X:Cx}{tg:Expr}
def ze5{l:Expr}{tl:TE}(hl:PE X l tl):PI X tg l (znE X.K tl):=by
 intro pins s σ H R I h;refine thn (hl pins s σ H _ I h) λu s1 ⟨x,H1,I1,rx,a,t,ex,⟨xs,hx⟩,q⟩=>?_
 subst ex;cases (show u=Value.ref a from rx);cases t
 ·obtain⟨its,rv,pl,hz⟩:=I1.list (show SqL X.K H1 a xs from hx);refine wpAny_pyIter_list pl.isList ?_;refine⟨s1.heap.objs.size,[s1.heap.objs.size],_,_,H1,rfl,I1.kept (t':=s1.toks) λb o e=>qm _ e,zgb a _,⟨_,qJ _ rfl,rfl,rfl⟩,λb hb=>?_,q⟩;have e:b=s1.heap.objs.size:=by simpa using hb
  subst e;exact I1.zb4 (qf _) (I1.hok.fresh (qf _))
 ·obtain⟨its,rv,pl,hz⟩:=I1.tuple (show SqT X.K H1 a xs from hx);refine wpAny_pyIter_tuple (show s1.heap.IsTuple a its.toArray from pl) ?_;refine⟨s1.heap.objs.size,[s1.heap.objs.size],_,_,H1,rfl,I1.kept (t':=s1.toks) λb o e=>qm _ e,zfd a _,⟨_,qJ _ rfl,rfl,rfl⟩,λb hb=>?_,q⟩;have e:b=s1.heap.objs.size:=by simpa using hb
  subst e;exact I1.zb4 (qf _) (I1.hok.fresh (qf _))
end
def zlR(K:FRx):R2:=λx y H Q=>∃t p xs i v,x=.ref p/\y=.int i/\SqB K t H p xs/\atI xs i=some v/\Q v H
def zft{X:Cx}:IxR X (zlR X.K):=by
 have b:=zki.or zlL (X:=X);have f:∀x y H Q,zlR X.K x y H Q->zm4 X.K x y H Q\/znf X.K x y H Q:=by
  rintro x y H Q ⟨t,p,xs,i,v,e1,e2,h,e3,q⟩;cases t
  ·exact .inl ⟨p,xs,i,v,e1,e2,h,e3,q⟩
  ·exact .inr ⟨p,xs,i,v,e1,e2,h,e3,q⟩
 exact λvalue slice pins s σ H x y v u Q I r1 r2 h e=>b value slice pins s σ H x y v u Q I r1 r2 (f _ _ _ _ h) e
def zj6(l b:AdX)(its its2:Array Value)(n n2:Nat)(d2:Option Addr)(sl2:Array (Option Value))(h0:¬(!its.isEmpty&&Builtin.List.listTooLong (its.size+its2.size))=true)(h1:its.size<=sizeLine)(h2:its.size+its2.size<=sizeLine+1):Meets (Builtin.«list.extend» ⟨[.ref l,.ref b],[]⟩) (λ_ R s=>s.heap.get? l=some { cls:=.type "list",dict:=none,data:=.seq its n,slots:=#[] }/\s.heap.get? b=some { cls:=.type "tuple",dict:=d2,data:=.seq its2 n2,slots:=sl2 }/\
   R (.ok (.ret Value.none)) { s with heap:=s.heap.update l (Obj.mapSeq λx=>x++its2),toks:=s.toks }):=.of_wp λprog w A R s h=>by
  have⟨hp,g,d,tk,os⟩:=s;obtain⟨hl,hb,h⟩:=h;have f1:=nk;have f2:=AutoSeq1.sub_tuple_tuple
  have f3:=AutoSeq1.sub_list_list;have f4:=AutoSeq1.sub_tuple_list
  have f5:=AutoSeq1.sub_list_tuple;have hz:(its++its2).size<=sizeLine+1:=by rw[Array.size_append];exact h2
  wp_walk using (wpAny_updateSeq hl rfl (hz:=h1) (_hz':=hz)),k5 hl,k5 hb
  exact⟨_,rfl,h⟩
def zir(K:FRx):V->List V->Hp->VK->Prop:=λx vs H Q=>∃l b xs zs,x=.ref l/\vs=[.ref b]/\H l=some (.lst xs)/\SqT K H b zs/\xs.length+zs.length<=sizeLine/\Q .non (upd H l (.lst (xs++zs)))
def zeS{X:Cx}:MtM X "list.extend" (zir X.K):=by
 intro pins s σ H x vs v us Q I rx rv h;obtain⟨l,b,xs,zs,rfl,rfl,hH,hB,hz,q⟩:=h;cases rx;obtain⟨u,rfl,ru⟩:=rv.one;cases ru;have⟨z,its,n,r,hl,e⟩:=I.zbK hH;have⟨its2,r2,⟨⟨cls,dd,data,sl⟩,ho,hc,n2,hd⟩,z2⟩:=I.tuple hB;simp only at hc hd;subst hc hd;have l2:=r2.length;have hsz:its.toArray.size+its2.toArray.size<=sizeLine:=by rw[qF,qF];omega
 have hlong:¬(!its.toArray.isEmpty&&Builtin.List.listTooLong (its.toArray.size+its2.toArray.size))=true:=by
  rw[ZJ hsz,bf];exact qL
 refine mf F.slot_list_extend ⟨_,e,rfl⟩ F.entry_list_extend (F.args_list_extend_2 _ _) (zj6 l b its.toArray its2.toArray n n2 dd sl hlong (by rw[qF];omega) (by omega)) ⟨e,ho,?_⟩;refine⟨.non,_,I.lset (its':=its++its2) hH e (by simp) (r.append r2) ?_,rfl,q⟩;rw[qy];omega
def zic(K:FRx):R2:=λx y H Q=>∃a b xs ys,x=.ref a/\y=.ref b/\SqT K H a xs/\SqT K H b ys/\xs.length+ys.length<=sizeLine/\
 (xs=[]->Q (.ref b) H)/\(xs≠[]->ys=[]->Q (.ref a) H)/\(xs≠[]->ys≠[]->∀p,H p=none->Q (.ref p) (upd H p (.tup (xs++ys))))
def j4{X:Cx}:OpR X (binaryOp .Add) (zic X.K):=by
 intro pins s σ H x y v u Q I rx ry h;obtain⟨a,b,xs,ys,rfl,rfl,h1,h2,hz,q1,q2,q3⟩:=h;cases (show v=Value.ref a from rx);cases (show u=Value.ref b from ry);have⟨its,r1,p1,_⟩:=I.tuple h1;have⟨its2,r2,p2,_⟩:=I.tuple h2;have l1:=r1.length;have l2:=r2.length
 by_cases hx:xs=[]
 ·have hi:its=[]:=(Vals.YD r1).mpr hx;have⟨⟨cls,dd,data,sl⟩,ho,hc,n,hd⟩:=id p1
  have⟨⟨cls2,dd2,data2,sl2⟩,ho2,hc2,n2,hd2⟩:=id p2;simp only at hc hd hc2 hd2;subst hc hd hc2 hd2;exact p6 ⟨_,ho,rfl⟩ ⟨_,ho2,rfl⟩ bh seq_tuple_add nO nL (nH _ _) (tuple_addW0 a b its.toArray its2.toArray n n2 dd dd2 sl sl2 (by simp[hi])) ⟨ho,ho2,⟨.ref b,H,I,rfl,q1 hx⟩⟩
 ·have hi:its≠[]:=λz=>hx ((Vals.YD r1).mp z)
  refine HT.zjG p1 p2 hi (λz=>?_) (λz=>?_) (by omega)
  ·exact⟨.ref a,H,I,rfl,q2 hx ((Vals.YD r2).mp z)⟩
  ·have hf:H s.heap.objs.size=none:=I.hok.fresh (qf _);refine⟨.ref s.heap.objs.size,_,I.laid (o:=.tup (xs++ys)) (t':=s.toks) (λc o e=>qm _ e) (qf _) ⟨by rw[qy];exact hz,its++its2,r1.append r2,⟨_,qJ _ rfl,rfl,_,rfl⟩⟩,rfl,q3 hx (λw=>z ((Vals.YD r2).mpr w)) _ hf⟩
def Va{X:Cx}{scope sc:Scope}(hsc:X.env.scope=sc)(kind:scope.kind=.function)(nocell:∀y∈scope.names,y.2≠ .cell)(loc:∀y∈scope.names,y.2=.local->scope.names.lookup y.1=some .local)(free:∀y∈scope.names,y.2=.free->sc.names.lookup y.1=some .cell\/sc.names.lookup y.1=some .free):yc X scope:=⟨kind,nocell,loc,λy hy hf=>by
  show X.env.scope.names.lookup y.1=_\/X.env.scope.names.lookup y.1=_
  rw[hsc];exact free y hy hf⟩
def csx{X:Cx}{scope sc:Scope}(hsc:X.env.scope=sc:=by rfl)(kind:scope.kind=.function:=by rfl)(h:(∀y∈scope.names,y.2≠ .cell)/\(∀y∈scope.names,y.2=.local->scope.names.lookup y.1=some .local)/\∀y∈scope.names,y.2=.free->sc.names.lookup y.1=some .cell\/sc.names.lookup y.1=some .free:=by decide+kernel):yc X scope:=Va hsc kind h.1 h.2.1 h.2.2
def xG{X:Cx}{scope:Scope}:∀j∈([]:LNt),∃x,X.N[j]?=some x/\scope.names.lookup x=some .free:=λ_ h=>by cases h
def xE{X:Cx}{scope:Scope}{i:Nat}{F:LNt}{x:Str}(h1:X.N[i]?=some x)(h2:scope.names.lookup x=some .free)(r:∀j∈F,∃x,X.N[j]?=some x/\scope.names.lookup x=some .free):∀j∈i::F,∃x,X.N[j]?=some x/\scope.names.lookup x=some .free:=λj hj=>by
 rcases qx.mp hj with z|z
 ·subst z;exact⟨x,h1,h2⟩
 ·exact r j z
end L2
namespace L2.Fu
open PySem PySem.Spec PyProof.Rows
inductive Sl where
 |no|pu (d:PdX)|ow (ds:LPd)|dk (ks:List (Int×PyData))
abbrev Ro:=List Sl
abbrev RPx:=Ro->Option PyData
abbrev RLx:=Ro->Option (List PyData)
abbrev LPx:=List PyData->Option PyData
abbrev LLx:=List PyData->Option (List PyData)
def isM:Sl->Bool
 | .ow _=>true
 | .dk _=>true
 |_=>false
def offs(H:Hp)(os:LAd):Hp:=λb=>if b∈os then none else H b
section
variable{H H' G:Hp}{os os':LAd}{a:AdX}{o:HO}
def zw(h:a∉os):offs H os a=H a:=by unfold offs;rw[qo h]
def xN(h:a∈os):offs H os a=none:=by unfold offs;rw[qj h]
def xW(H:Hp)(os:LAd):Same (offs H os) H:=λb o e=>by
 by_cases h:b∈os
 ·rw[xN h] at e;cases e
 ·rw[zw h] at e;exact e
def zm(e:Same H H')(os:LAd):Same (offs H os) (offs H' os):=λb o q=>by
 by_cases h:b∈os
 ·rw[xN h] at q;cases q
 ·rw[zw h] at q ⊢;exact e b o q
def xh(h:∀a∈os',a∈os):Same (offs H os) (offs H os'):=λb o q=>by
 by_cases hb:b∈os
 ·rw[xN hb] at q;cases q
 ·rw[zw hb] at q;rw[zw (λz=>hb (h b z))];exact q
def yL(h:a∈os):offs (upd H a o) os=offs H os:=by
 funext b
 by_cases hb:b∈os
 ·rw[xN hb,xN hb]
 ·rw[zw hb,zw hb,zV (λz=>hb (by rw[z];exact h))]
def jA:offs (upd H a o) (a::os)=offs H (a::os):=yL ka
end
def Al(H:Hp)(os:LAd):Prop:=∀a∈os,∃o,H a=some o
def Al.same{H H':Hp}{os:LAd}(h:Al H os)(e:Same H H'):Al H' os:=λa ha=>by
 have⟨o,q⟩:=h a ha;exact⟨o,e a o q⟩
def Al.nil(H:Hp):Al H []:=λa h=>by cases h
def Al.new{H:Hp}{os:LAd}(h:Al H os){a:AdX}(n:H a=none):a∉os:=λz=>by
 have⟨o,q⟩:=h a z;rw[n] at q;cases q
section
variable{K:FRx}{H H':Hp}{os:LAd}{v:V}{d:PdX}
def jL(K:FRx)(H:Hp)(os:LAd)(v:V)(d:PdX):Prop:=Rep K (offs H os) v d\/∃a xs ds,v=.ref a/\d=.list ds/\H a=some (.lst xs)/\Reps K (offs H os) xs ds
def jL.same(e:Same H H')(h:jL K H os v d):jL K H' os v d:=by
 rcases h with h|⟨a,xs,ds,e1,e2,h1,h2⟩
 ·exact .inl (h.same (zm e os))
 ·exact .inr ⟨a,xs,ds,e1,e2,e _ _ h1,h2.same (zm e os)⟩
def jL.rep(h:jL K H os v d):Rep K H v d:=by
 rcases h with h|⟨a,xs,ds,rfl,rfl,h1,h2⟩
 ·exact h.same (xW H os)
 ·exact .lst (SqL.of h1) (h2.same (xW H os))
def jL.int{i:Int}(h:jL K H os v (.int i)):v=.int i:=by
 cases h.rep;rfl
def jL.bl{b:Bool}(h:jL K H os v (.bool b)):v=.bl b:=by
 cases h.rep;rfl
def jL.non(h:jL K H os v .none):v=.non:=by
 cases h.rep;rfl
def jL.tup{ds:LPd}(h:jL K H os v (.tuple ds)):∃a xs,v=.ref a/\SqT K H a xs/\SqT K (offs H os) a xs/\Reps K (offs H os) xs ds:=by
 rcases h with h|⟨a,xs,es,e1,e2,h1,h2⟩
 ·cases h with
  |tup hS r=>exact⟨_,_,rfl,(xW H os).tup hS,hS,r⟩
 ·cases e2
def jL.lst{ds:LPd}(h:jL K H os v (.list ds)):∃a xs,v=.ref a/\SqL K H a xs/\Reps K (offs H os) xs ds:=by
 rcases h with h|⟨a,xs,es,e1,e2,h1,h2⟩
 ·cases h with
  |lst hS r=>exact⟨_,_,rfl,(xW H os).seq hS,r⟩
 ·cases e2;exact⟨a,xs,e1,SqL.of h1,h2⟩
inductive j5(K:FRx)(H:Hp)(os:LAd):List V->List PyData->Prop
 |nil:j5 K H os [] []
 |cons {v:V} {d:PdX} {vs:List V} {ds:LPd}:jL K H os v d->j5 K H os vs ds->j5 K H os (v::vs) (d::ds)
theorem j5.same(e:Same H H'):∀{vs:List V} {ds:LPd},j5 K H os vs ds->j5 K H' os vs ds
 |_,_,.nil=>.nil
 |_,_,.cons h r=>.cons (h.same e) (j5.same e r)
def j5.one{vs:List V}{d:PdX}(h:j5 K H os vs [d]):∃v,vs=[v]/\jL K H os v d:=by
 cases h with
 |cons h r=>cases r;exact⟨_,rfl,h⟩
def j5.two{vs:List V}{d e:PdX}(h:j5 K H os vs [d,e]):∃v u,vs=[v,u]/\jL K H os v d/\jL K H os u e:=by
 cases h with
 |cons h r=>cases r with
  |cons h2 r=>cases r;exact⟨_,_,rfl,h,h2⟩
theorem j5.reps:∀{vs:List V} {ds:LPd},j5 K H os vs ds->Reps K H vs ds
 |_,_,.nil=>.nil
 |_,_,.cons h r=>.cons h.rep (j5.reps r)
end
inductive Vh(K:FRx)(G:Hp):List (Key×V)->List (Int×PyData)->Prop
 |nil:Vh K G [] []
 |cons {k:Int} {v:V} {d:PdX} {ws:List (Key×V)} {ks:List (Int×PyData)}:Rep K G v d->Vh K G ws ks->Vh K G ((Sum.inl k,v)::ws) ((k,d)::ks)
theorem Vh.same{K:FRx}{G G':Hp}(e:Same G G'):∀{ws:List (Key×V)} {ks:List (Int×PyData)},Vh K G ws ks->Vh K G' ws ks
 |_,_,.nil=>.nil
 |_,_,.cons h r=>.cons (h.same e) (Vh.same e r)
def COk(K:FRx)(G:Hp):HO->Sl->Prop
 | .lst xs,.ow ds=>Reps K G xs ds
 | .dK ws,.dk ks=>Vh K G ws ks
 |_,_=>False
def COk.same{K:FRx}{G G':Hp}{o:HO}{c:Sl}(e:Same G G')(h:COk K G o c):COk K G' o c:=by
 cases o<;>cases c<;>first |exact False.elim h|skip
 ·exact Reps.same e h
 ·exact Vh.same e h
def COk.ow{K:FRx}{G:Hp}{o:HO}{ds:LPd}(h:COk K G o (.ow ds)):∃xs,o=.lst xs/\Reps K G xs ds:=by
 cases o<;>first |exact False.elim h|skip
 exact⟨_,rfl,h⟩
structure xC(K:FRx)(H:Hp)(os:LAd)(σ:St)(ρ:Ro):Prop where
 pu:∀(i:Nat)(d:PdX),ρ[i]?=some (.pu d)->∃v,σ[i]?=some (some v)/\Rep K (offs H os) v d
 mu:∀(i:Nat)(c:Sl),ρ[i]?=some c->isM c=true->∃a o,σ[i]?=some (some (.ref a))/\a∈os/\H a=some o/\COk K (offs H os) o c
 al:Al H os
 len:σ.length=ρ.length
def xC.ow{K:FRx}{H:Hp}{os:LAd}{σ:St}{ρ:Ro}(h:xC K H os σ ρ)(i:Nat)(ds:LPd)(q:ρ[i]?=some (.ow ds)):∃a xs,σ[i]?=some (some (.ref a))/\a∈os/\H a=some (.lst xs)/\Reps K (offs H os) xs ds:=by
 have⟨a,o,h1,h2,h3,h4⟩:=h.mu i _ q rfl;obtain⟨xs,rfl,r⟩:=h4.ow;exact⟨a,xs,h1,h2,h3,r⟩
def xC.same{K:FRx}{H H':Hp}{os:LAd}{σ:St}{ρ:Ro}(e:Same H H')(h:xC K H os σ ρ):xC K H' os σ ρ where
 pu:=λi d q=>by
  have⟨v,h1,h2⟩:=h.pu i d q;exact⟨v,h1,h2.same (zm e os)⟩
 mu:=λi c q m=>by
  have⟨a,o,h1,h2,h3,h4⟩:=h.mu i c q m;exact⟨a,o,h1,h2,e _ _ h3,h4.same (zm e os)⟩
 al:=h.al.same e
 len:=h.len
def FE(X:Cx)(e:Expr)(f:RPx):Prop:=∃t:TE,PE X e t/\∀(σ:St)(H:Hp)(os:LAd)(ρ:Ro)(d:PdX)(Q:VK),xC X.K H os σ ρ->f ρ=some d->
  (∀v H',Same H H'->Rep X.K (offs H' os) v d->Q v H')->t σ H Q
def FB(X:Cx)(e:Expr)(f:RPx):Prop:=∃t:TE,PE X e t/\∀(σ:St)(H:Hp)(os:LAd)(ρ:Ro)(d:PdX)(Q:VK),xC X.K H os σ ρ->f ρ=some d->
  (∀v H',Same H H'->jL X.K H' os v d->Q v H')->t σ H Q
def FL(X:Cx)(e:Expr)(f:RLx):Prop:=∃t:TE,PE X e t/\∀(σ:St)(H:Hp)(os:LAd)(ρ:Ro)(ds:LPd)(Q:VK),xC X.K H os σ ρ->f ρ=some ds->
  (∀a xs H',H a=none->Same H H'->H' a=some (.lst xs)->Reps X.K (offs H' (a::os)) xs ds->Q (.ref a) H')->t σ H Q
def FAB(X:Cx)(es:List Expr)(f:RLx):Prop:=∃t:TA,PA X es t/\∀(σ:St)(H:Hp)(os:LAd)(ρ:Ro)(ds:LPd)(Q:List V->Hp->Prop),xC X.K H os σ ρ->f ρ=some ds->
  (∀vs H',Same H H'->j5 X.K H' os vs ds->Q vs H')->t σ H Q
def FA(X:Cx)(es:List Expr)(f:RLx):Prop:=∃t:TA,PA X es t/\∀(σ:St)(H:Hp)(os:LAd)(ρ:Ro)(ds:LPd)(Q:List V->Hp->Prop),xC X.K H os σ ρ->f ρ=some ds->
  (∀vs H',Same H H'->Reps X.K (offs H' os) vs ds->Q vs H')->t σ H Q
def FT(X:Cx)(e:Expr)(f:Ro->Option Bool):Prop:=∃t:TT,PT X e t/\∀(σ:St)(H:Hp)(os:LAd)(ρ:Ro)(b:Bool)(Q:Bool->Hp->Prop),xC X.K H os σ ρ->f ρ=some b->
  (∀H',Same H H'->Q b H')->t σ H Q
def FW(X:Cx)(e:Expr)(f:Ro->Option Bool):Prop:=∃t:TT,PW X e t/\∀(σ:St)(H:Hp)(os:LAd)(ρ:Ro)(b:Bool)(Q:Bool->Hp->Prop),xC X.K H os σ ρ->f ρ=some b->
  (∀H',Same H H'->Q b H')->t σ H Q
def yg(f:RLx):RPx:=λρ=>(f ρ).map .list
def map_some{α β:Type}{o:Option α}{f:α->β}{b:β}(h:o.map f=some b):∃a,o=some a/\f a=b:=by
 cases o with
 |none=>cases h
 |some a=>exact⟨a,rfl,kb h⟩
def bind_some{α β:Type}{o:Option α}{f:α->Option β}{b:β}(h:o.bind f=some b):∃a,o=some a/\f a=some b:=by
 cases o with
 |none=>cases h
 |some a=>exact⟨a,rfl,h⟩
section
variable{X:Cx}{e:Expr}{f:RPx}{pos:Pos}
def FE.fb(h:FE X e f):FB X e f:=by
 have⟨t,h1,h2⟩:=h;exact⟨t,h1,λσ H os ρ d Q R q k=>h2 σ H os ρ d Q R q λv H' s r=>k v H' s (.inl r)⟩
def FL.fe{f:RLx}(h:FL X e f):FE X e (yg f):=by
 have⟨t,h1,h2⟩:=h;refine⟨t,h1,λσ H os ρ d Q R q k=>?_⟩;have⟨ds,e1,e2⟩:=map_some q;subst e2;refine h2 σ H os ρ ds Q R e1 λa xs H' n s hx r=>k _ H' s (.lst (SqL.of ?_) (r.same (xh λb hb=>qA _ hb)))
 rw[zw (R.al.new n)];exact hx
def FL.fb{f:RLx}(h:FL X e f):FB X e (yg f):=h.fe.fb
def gv(i:Nat):RPx:=λρ=>match ρ[i]? with |some (.pu d)=>some d|_=>none
def gb(i:Nat):RPx:=λρ=>match ρ[i]? with |some (.pu d)=>some d|some (.ow ds)=>some (.list ds)|_=>none
def zjk{i:Nat}{ρ:Ro}{d:PdX}(h:gv i ρ=some d):ρ[i]?=some (.pu d):=by
 unfold gv at h;split at h
 ·rename_i e;cases h;exact e
 ·cases h
def ze(i:Nat){x:Str}(hN:X.N[i]?=some x:=by rfl)(hv:Vis X.env.scope x:=by trivial)(hd:NDx x:=by decide)(hcd:NCx x:=by decide):FE X (.Name x pos) (gv i):=by
 refine⟨_,yv hN hv hd hcd,λσ H os ρ d Q R q k=>?_⟩;obtain⟨v,h1,h2⟩:=R.pu i d (zjk q);exact⟨v,h1,k v H (Same.refl H) h2⟩
def yl(i:Nat){x:Str}(hN:X.N[i]?=some x:=by rfl)(hv:Vis X.env.scope x:=by trivial)(hd:NDx x:=by decide)(hcd:NCx x:=by decide):FB X (.Name x pos) (gb i):=by
 refine⟨_,yv hN hv hd hcd,λσ H os ρ d Q R q k=>?_⟩;unfold gb at q;split at q
 ·rename_i e;cases q;have⟨v,h1,h2⟩:=R.pu i d e;exact⟨v,h1,k v H (Same.refl H) (.inl h2)⟩
 ·rename_i ds e;cases q;have⟨a,xs,h1,h2,h3,h4⟩:=R.ow i ds e;exact⟨_,h1,k _ H (Same.refl H) (.inr ⟨a,xs,ds,rfl,rfl,h3,h4⟩)⟩
 ·cases q
def cst(d:PdX):RPx:=λ_=>some d
def ye{i j}:FE X (.Constant (.int i) j pos) (cst (.int i)):=⟨_,zmI,λ_ H _ _ _ _ _ q k=>by cases q;exact k _ H (Same.refl H) (.int i)⟩
def qv(i:Nat){x:Str}(hN:X.N[i]?=some x:=by rfl)(hv:Vis X.env.scope x:=by trivial)(hd:NDx x:=by decide)(hcd:NCx x:=by decide):FB X (.Name x pos) (gv i):=FE.fb (ze i hN hv hd hcd)
def qi{i j}:FB X (.Constant (.int i) j pos) (cst (.int i)):=FE.fb ye
def V4{b j}:FE X (.Constant (.bool b) j pos) (cst (.bool b)):=⟨_,zm3,λ_ H _ _ _ _ _ q k=>by cases q;exact k _ H (Same.refl H) (.bl b)⟩
def Wj{j}:FE X (.Constant .none j pos) (cst .none):=⟨_,zi5,λ_ H _ _ _ _ _ q k=>by cases q;exact k _ H (Same.refl H) .non⟩
def GC(K:FRx)(mg:Str->Option Value)(x:Str)(d:PdX):Prop:=∃v u,mg x=some u/\RelV v u/\∀H,Rep K H v d
def YC{x:Str}{d:PdX}(g:GC X.K X.mg x d)(hg:Gl X x)(hd:NDx x:=by decide):FE X (.Name x pos) (cst d):=by
 have⟨v,u,h1,h2,h3⟩:=g;exact⟨_,zkN hg h1 h2 hd,λ_ H os _ _ _ _ q k=>by cases q;exact k _ H (Same.refl H) (h3 _)⟩
def op2(h:PyData->PyData->Option PyData)(f g:RPx):RPx:=λρ=>(f ρ).bind λx=>(g ρ).bind λy=>h x y
def R2F(K:FRx)(r:R2)(h:PyData->PyData->Option PyData):Prop:=∀(x y:V)(H:Hp)(os:LAd)(d e c:PdX)(Q:VK),Al H os->jL K H os x d->jL K H os y e->h d e=some c->(∀v H',Same H H'->Rep K (offs H' os) v c->Q v H')->r x y H Q
def R2L(K:FRx)(r:R2)(h:PyData->PyData->Option (List PyData)):Prop:=∀(x y:V)(H:Hp)(os:LAd)(d e:PdX)(c:LPd)(Q:VK),Al H os->jL K H os x d->jL K H os y e->h d e=some c->
  (∀a xs H',H a=none->Same H H'->H' a=some (.lst xs)->Reps K (offs H' (a::os)) xs c->Q (.ref a) H')->r x y H Q
variable{a b:Expr}{g:RPx}
def two{ta tb:TE}{σ:St}{H:Hp}{os:LAd}{ρ:Ro}{d e:PdX}{R:V->V->Hp->Prop}(ha:∀(σ:St)(H:Hp)(os:LAd)(ρ:Ro)(d:PdX)(Q:VK),xC X.K H os σ ρ->f ρ=some d->(∀v H',Same H H'->jL X.K H' os v d->Q v H')->ta σ H Q)(hb:∀(σ:St)(H:Hp)(os:LAd)(ρ:Ro)(d:PdX)(Q:VK),xC X.K H os σ ρ->g ρ=some d->(∀v H',Same H H'->jL X.K H' os v d->Q v H')->tb σ H Q)(rel:xC X.K H os σ ρ)(e1:f ρ=some d)(e2:g ρ=some e)(k:∀x y H',Same H H'->jL X.K H' os x d->jL X.K H' os y e->R x y H'):ta σ H λx H1=>tb σ H1 λy H2=>R x y H2:=ha σ H os ρ d _ rel e1 λx H1 s1 r1=>hb σ H1 os ρ e _ (rel.same s1) e2 λy H2 s2 r2=>k x y H2 (s1.trans s2) (r1.same s2) r2
def V9{h:PyData->PyData->Option PyData}{ρ:Ro}{c:PdX}(q:op2 h f g ρ=some c):∃d e,f ρ=some d/\g ρ=some e/\h d e=some c:=by
 have⟨d,e1,q⟩:=bind_some q;have⟨e,e2,q⟩:=bind_some q;exact⟨d,e,e1,e2,q⟩
def zC{op:Operator}{r:R2}{h:PyData->PyData->Option PyData}(ho:OpR X (binaryOp op) r)(hr:R2F X.K r h)(ha:FB X a f)(hb:FB X b g):FE X (.BinOp a op b pos) (op2 h f g):=by
 have⟨ta,pa,qa⟩:=ha;have⟨tb,pb,qb⟩:=hb;refine⟨_,zbh ho pa pb,λσ H os ρ c Q R q k=>?_⟩;have⟨d,e,e1,e2,e3⟩:=V9 q;refine two qa qb R e1 e2 λx y H' s r1 r2=>hr x y H' os d e c Q (R.al.same s) r1 r2 e3 λv H2 s2=>k v H2 (s.trans s2)
def zlM(h:PyData->PyData->Option (List PyData))(f g:RPx):RLx:=λρ=>(f ρ).bind λx=>(g ρ).bind λy=>h x y
def zm2{op:Operator}{r:R2}{h:PyData->PyData->Option (List PyData)}(ho:OpR X (binaryOp op) r)(hr:R2L X.K r h)(ha:FB X a f)(hb:FB X b g):FL X (.BinOp a op b pos) (zlM h f g):=by
 have⟨ta,pa,qa⟩:=ha;have⟨tb,pb,qb⟩:=hb;refine⟨_,zbh ho pa pb,λσ H os ρ c Q R q k=>?_⟩;have⟨d,e1,q⟩:=bind_some q;have⟨e,e2,e3⟩:=bind_some q;refine two qa qb R e1 e2 λx y H' s r1 r2=>hr x y H' os d e c Q (R.al.same s) r1 r2 e3 λa xs H2 n s2=>k a xs H2 (s.free n) (s.trans s2)
def zbW{op:CmpOp}{r:R2}{h:PyData->PyData->Option PyData}(ho:OpR X (compareOp op) r)(hr:R2F X.K r h)(ha:FB X a f)(hb:FB X b g)(hm:behindInMarks op b=false):FE X (.Compare a [op] [b] pos) (op2 h f g):=by
 have⟨ta,pa,qa⟩:=ha;have⟨tb,pb,qb⟩:=hb;refine⟨_,zfy ho pa pb hm,λσ H os ρ c Q R q k=>?_⟩;have⟨d,e,e1,e2,e3⟩:=V9 q;refine two qa qb R e1 e2 λx y H' s r1 r2=>hr x y H' os d e c Q (R.al.same s) r1 r2 e3 λv H2 s2=>k v H2 (s.trans s2)
def zG(f:RPx):Ro->Option Bool:=λρ=>match f ρ with |some (.bool b)=>some b|_=>none
def YZ{ρ:Ro}{b:Bool}(h:zG f ρ=some b):f ρ=some (.bool b):=by
 unfold zG at h;split at h
 ·rename_i e;cases h;exact e
 ·cases h
def yQ{op:CmpOp}{r:R2}{h:PyData->PyData->Option PyData}(ho:OpR X (compareOp op) r)(hr:R2F X.K r h)(ha:FB X a f)(hb:FB X b g)(hm:behindInMarks op b=false):FT X (.Compare a [op] [b] pos) (zG (op2 h f g)):=by
 have⟨ta,pa,qa⟩:=ha;have⟨tb,pb,qb⟩:=hb;refine⟨_,zbx ho pa pb hm,λσ H os ρ c Q R q k=>?_⟩;obtain⟨d,e,e1,e2,e3⟩:=V9 (YZ q);refine two qa qb R e1 e2 λx y H' s r1 r2=>hr x y H' os d e (.bool c) _ (R.al.same s) r1 r2 e3 λv H2 s2 rv=>?_
 cases rv;exact⟨c,rfl,k H2 (s.trans s2)⟩
def Y6(ha:FE X e f)(he:∀whole,isTrue e X.env whole=(do let v <-whole;standAt e.pos;holding [v] (truthy v)):=by intro _;rfl):FT X e (zG f):=by
 have⟨ta,pa,qa⟩:=ha;refine⟨_,zii pa he,λσ H os ρ c Q R q k=>?_⟩;refine qa σ H os ρ _ _ R (YZ q) λv H' s rv=>?_
 cases rv;exact⟨c,rfl,k H' s⟩
def WT(f:Ro->Option Bool):Ro->Option Bool:=λρ=>(f ρ).map (!·)
def orT(f g:Ro->Option Bool):Ro->Option Bool:=λρ=>(f ρ).bind λc=>if c then some true else g ρ
def zaa{f:Ro->Option Bool}(ha:FT X a f):FT X (.UnaryOp .Not a pos) (WT f):=by
 have⟨ta,pa,qa⟩:=ha;refine⟨_,zhw pa,λσ H os ρ c Q R q k=>?_⟩;have⟨b,e1,e2⟩:=map_some q;subst e2;exact qa σ H os ρ b _ R e1 k
def FW.ft{f:Ro->Option Bool}(h:FW X e f):FT X e f:=by
 have⟨t,p,q⟩:=h;exact⟨t,p.pt,q⟩
def zez{f:Ro->Option Bool}(ha:FT X a f):FW X (.BoolOp .Or [a] pos) f:=by
 have⟨t,p,q⟩:=ha;exact⟨t,pw_or1 p,q⟩
def zh2{f g:Ro->Option Bool}{rest:List Expr}(ha:FT X a f)(hb:FW X (.BoolOp .Or (b::rest) pos) g):FW X (.BoolOp .Or (a::b::rest) pos) (orT f g):=by
 have⟨ta,pa,qa⟩:=ha;have⟨tb,pb,qb⟩:=hb;refine⟨_,pw_or pa pb,λσ H os ρ c Q R q k=>?_⟩;have⟨b,e1,e2⟩:=bind_some q;refine qa σ H os ρ b _ R e1 λH' s=>?_
 cases b with
 |true=>rw[qj rfl] at e2 ⊢;cases e2;exact k H' s
 |false=>rw[qo qL] at e2 ⊢;exact qb σ H' os ρ c Q (R.same s) e2 λH2 s2=>k H2 (s.trans s2)
def zgQ(f g:RPx):RPx:=λρ=>match f ρ with |some (.bool true)=>g ρ|some (.bool false)=>some (.bool false)|_=>none
def zmK(f:RPx):RPx:=λρ=>match f ρ with |some (.bool b)=>some (.bool (!b))|_=>none
def zh4{op}(h:FE X a f):FE X (.BoolOp op [a] pos) f:=by
 have⟨t,p,q⟩:=h;exact⟨t,zl0 p,q⟩
def zhs{rest:List Expr}(ha:FE X a f)(hb:FE X (.BoolOp .And (b::rest) pos) g):FE X (.BoolOp .And (a::b::rest) pos) (zgQ f g):=by
 have⟨ta,pa,qa⟩:=ha;have⟨tb,pb,qb⟩:=hb;refine⟨_,zl5 pa pb,λσ H os ρ c Q R q k=>?_⟩;unfold zgQ at q;split at q
 ·rename_i e1;refine qa σ H os ρ _ _ R e1 λv H' s rv=>?_
  cases rv;refine⟨true,rfl,?_⟩;rw[qj rfl];exact qb σ H' os ρ c Q (R.same s) q λv H2 s2=>k v H2 (s.trans s2)
 ·rename_i e1;cases q;refine qa σ H os ρ _ _ R e1 λv H' s rv=>?_
  cases rv;refine⟨false,rfl,?_⟩;rw[qo qL];exact k _ H' s (.bl _)
 ·cases q
def zms(ha:FE X a f):FE X (.UnaryOp .Not a pos) (zmK f):=by
 have⟨ta,pa,qa⟩:=ha;refine⟨_,zlg pa,λσ H os ρ c Q R q k=>?_⟩;unfold zmK at q;split at q
 ·rename_i e1;cases q;refine qa σ H os ρ _ _ R e1 λv H' s rv=>?_
  cases rv;exact⟨_,rfl,k _ H' s (.bl _)⟩
 ·cases q
def ifE(c:Ro->Option Bool)(f g:RPx):RPx:=λρ=>(c ρ).bind λb=>if b then f ρ else g ρ
def zcP{c:Expr}{fc:Ro->Option Bool}(hc:FT X c fc)(ha:FE X a f)(hb:FE X b g):FE X (.IfExp c a b pos) (ifE fc f g):=by
 have⟨tc,pc,qc⟩:=hc;have⟨ta,pa,qa⟩:=ha;have⟨tb,pb,qb⟩:=hb;refine⟨_,zhk pc pa pb,λσ H os ρ d Q R q k=>?_⟩;have⟨b,e1,e2⟩:=bind_some q;refine qc σ H os ρ b _ R e1 λH' s=>?_
 cases b with
 |true=>rw[qj rfl] at e2 ⊢;exact qa σ H' os ρ d Q (R.same s) e2 λv H2 s2=>k v H2 (s.trans s2)
 |false=>rw[qo qL] at e2 ⊢;exact qb σ H' os ρ d Q (R.same s) e2 λv H2 s2=>k v H2 (s.trans s2)
def op1(h:PyData->Option PyData)(f:RPx):RPx:=λρ=>(f ρ).bind h
def zaB:PyData->Option PyData
 | .int i=>some (.int (-i))
 |_=>none
def YT(ha:FE X a f):FE X (.UnaryOp .USub a pos) (op1 zaB f):=by
 have⟨ta,pa,qa⟩:=ha;refine⟨_,zm8 zlC pa,λσ H os ρ c Q R q k=>?_⟩;have⟨d,e1,e2⟩:=bind_some q;refine qa σ H os ρ _ _ R e1 λv H' s rv=>?_
 unfold zaB at e2;split at e2
 ·cases e2;cases rv;exact⟨_,rfl,k _ H' s (.int _)⟩
 ·cases e2
def a0:RLx:=λ_=>some []
def aC(f:RPx)(g:RLx):RLx:=λρ=>(f ρ).bind λx=>(g ρ).map (x::·)
variable{es:List Expr}{ga:RLx}
def zh:FA X [] a0:=⟨_,xP,λ_ H _ _ _ _ _ q k=>by cases q;exact k [] H (Same.refl H) .nil⟩
def zt:FAB X [] a0:=⟨_,xP,λ_ H _ _ _ _ _ q k=>by cases q;exact k [] H (Same.refl H) .nil⟩
def za(ha:FE X e f)(hr:FA X es ga)(hs:SEx X e es:=by rfl):FA X (e::es) (aC f ga):=by
 have⟨ta,pa,qa⟩:=ha;have⟨tb,pb,qb⟩:=hr;refine⟨_,yJ pa pb hs,λσ H os ρ ds Q R q k=>?_⟩;have⟨d,e1,q⟩:=bind_some q;have⟨r,e2,e3⟩:=map_some q;subst e3;exact qa σ H os ρ d _ R e1 λx H1 s1 r1=>qb σ H1 os ρ r _ (R.same s1) e2 λxs H2 s2 r2=>k _ H2 (s1.trans s2) (.cons (r1.same (zm s2 os)) r2)
def zk(ha:FB X e f)(hr:FAB X es ga)(hs:SEx X e es:=by rfl):FAB X (e::es) (aC f ga):=by
 have⟨ta,pa,qa⟩:=ha;have⟨tb,pb,qb⟩:=hr;refine⟨_,yJ pa pb hs,λσ H os ρ ds Q R q k=>?_⟩;have⟨d,e1,q⟩:=bind_some q;have⟨r,e2,e3⟩:=map_some q;subst e3;exact qa σ H os ρ d _ R e1 λx H1 s1 r1=>qb σ H1 os ρ r _ (R.same s1) e2 λxs H2 s2 r2=>k _ H2 (s1.trans s2) (.cons (r1.same s2) r2)
def xj(g:RLx):RPx:=λρ=>(g ρ).bind λds=>if ds.length<=16777216 then some (.tuple ds) else none
def yC{x1}(h:FA X es ga):FE X (.Tuple es x1 pos) (xj ga):=by
 have⟨t,p,q⟩:=h;refine⟨_,zew p,λσ H os ρ d Q R e k=>?_⟩;have⟨ds,e1,e2⟩:=bind_some e;by_cases hl:ds.length<=16777216
 ·rw[qj hl] at e2;cases e2;refine q σ H os ρ ds _ R e1 λvs H' s r=>⟨by rw[r.length];exact hl,λp hp=>k _ _ (s.trans (ya hp _)) (.tup (SqT.of ?_) (r.same (zm (ya hp _) os)))⟩
  rw[zw ((R.al.same s).new hp)];exact zH
 ·rw[qo hl] at e2;cases e2
def vq(g:RLx):RLx:=λρ=>(g ρ).bind λds=>if ds.length<=16777216 then some ds else none
def xR(h:FA X es ga):FL X (.List es pos) (vq ga):=by
 have⟨t,p,q⟩:=h;refine⟨_,zlx p,λσ H os ρ d Q R e k=>?_⟩;have⟨ds,e1,e2⟩:=bind_some e;by_cases hl:ds.length<=16777216
 ·rw[qj hl] at e2;cases e2;refine q σ H os ρ d _ R e1 λvs H' s r=>⟨by rw[r.length];exact hl,λp hp=>k p vs _ (s.free hp) (s.trans (ya hp _)) zH ?_⟩
  rw[jA];refine r.same λb o z=>?_
  by_cases hb:b∈os
  ·rw[xN hb] at z;cases z
  ·rw[zw hb] at z;rw[zw]
   ·exact z
   ·intro w;rcases qx.mp w with w|w
    ·rw[w,hp] at z;cases z
    ·exact hb w
 ·rw[qo hl] at e2;cases e2
end
end L2.Fu
namespace L2.Fu
open PySem PySem.Spec PyProof.Rows
open PySem.Builtin.Int (intBits)
def xD:PyData->PyData->Option PyData
 | .int i,.int j=>some (.int (i+j))
 |_,_=>none
def Yt:PyData->PyData->Option PyData
 | .int i,.int j=>some (.int (i - j))
 |_,_=>none
def yB:PyData->PyData->Option PyData
 | .int i,.int j=>open Classical in if IntMulOk i j then some (.int (i*j)) else none
 |_,_=>none
def yS:PyData->PyData->Option PyData
 | .int i,.int j=>if j≠0/\j.natAbs.log2<9000 then some (.int (i.fdiv j)) else none
 |_,_=>none
def xF:PyData->PyData->Option PyData
 | .int i,.int j=>if j≠0 then some (.int (i.fmod j)) else none
 |_,_=>none
def ze2(p:Int->Int->Bool):PyData->PyData->Option PyData
 | .int i,.int j=>some (.bool (p i j))
 |_,_=>none
section
variable{K:FRx}
def jI:R2F K (rI0 λi j=>.int (i+j)) xD:=by
 intro x y H os d e c Q al r1 r2 h k;unfold xD at h;split at h
 ·cases h;exact⟨_,_,r1.int,r2.int,k _ H (Same.refl H) (.int _)⟩
 ·cases h
def U8:R2F K (rI0 λi j=>.int (i - j)) Yt:=by
 intro x y H os d e c Q al r1 r2 h k;unfold Yt at h;split at h
 ·cases h;exact⟨_,_,r1.int,r2.int,k _ H (Same.refl H) (.int _)⟩
 ·cases h
def xn:R2F K (rI IntMulOk λi j=>.int (i*j)) yB:=by
 intro x y H os d e c Q al r1 r2 h k;unfold yB at h;split at h
 ·split at h
  ·rename_i hc;cases h;exact⟨_,_,r1.int,r2.int,hc,k _ H (Same.refl H) (.int _)⟩
  ·cases h
 ·cases h
def xr:R2F K (rI zk7 λi j=>.int (i.fdiv j)) yS:=by
 intro x y H os d e c Q al r1 r2 h k;unfold yS at h;split at h
 ·split at h
  ·rename_i hc;cases h;exact⟨_,_,r1.int,r2.int,hc,k _ H (Same.refl H) (.int _)⟩
  ·cases h
 ·cases h
def ju:R2F K (rI (λ_ j=>j≠0) λi j=>.int (i.fmod j)) xF:=by
 intro x y H os d e c Q al r1 r2 h k;unfold xF at h;split at h
 ·split at h
  ·rename_i hc;cases h;exact⟨_,_,r1.int,r2.int,hc,k _ H (Same.refl H) (.int _)⟩
  ·cases h
 ·cases h
def uZ{p:Int->Int->Bool}:R2F K (rI0 λi j=>.bl (p i j)) (ze2 p):=by
 intro x y H os d e c Q al r1 r2 h k;unfold ze2 at h;split at h
 ·cases h;exact⟨_,_,r1.int,r2.int,k _ H (Same.refl H) (.bl _)⟩
 ·cases h
def eqD(d e:PdX):Option PyData:=if SeqAt.shaped d=true/\SeqAt.shaped e=true then some (.bool (PyData.eqv d e)) else none
def neD(d e:PdX):Option PyData:=if SeqAt.shaped d=true/\SeqAt.shaped e=true then some (.bool (!PyData.eqv d e)) else none
def Uu:R2F K (znq K) eqD:=by
 intro x y H os d e c Q al r1 r2 h k;unfold eqD at h;split at h
 ·rename_i hc;cases h;exact⟨d,e,r1.rep,r2.rep,hc.1,hc.2,k _ H (Same.refl H) (.bl _)⟩
 ·cases h
def JR:R2F K (zmS K) neD:=by
 intro x y H os d e c Q al r1 r2 h k;unfold neD at h;split at h
 ·rename_i hc;cases h;exact⟨d,e,r1.rep,r2.rep,hc.1,hc.2,k _ H (Same.refl H) (.bl _)⟩
 ·cases h
def isNone:PyData->Bool
 | .none=>true
 |_=>false
def isD:PyData->PyData->Option PyData
 |d,.none=>some (.bool (isNone d))
 |_,_=>none
def WC:PyData->PyData->Option PyData
 |d,.none=>some (.bool (!isNone d))
 |_,_=>none
def ze8{H:Hp}{x:V}{d:PdX}(h:Rep K H x d):decide (x=.non)=isNone d:=by
 cases h<;>rfl
def Vw:R2F K (λx y H Q=>y=.non/\Q (.bl (!decide (x=.non))) H) WC:=by
 intro x y H os d e c Q al r1 r2 h k;unfold WC at h;split at h
 ·cases h;refine⟨r2.non,?_⟩;rw[ze8 r1.rep];exact k _ H (Same.refl H) (.bl _)
 ·cases h
def ixD:PyData->PyData->Option PyData
 | .tuple ds,.int i=>atI ds i
 | .list ds,.int i=>atI ds i
 |_,_=>none
def zdC{G:Hp}{xs:List V}{ds:LPd}{i:Int}{d:PdX}(r:Reps K G xs ds)(h:atI ds i=some d):∃v,atI xs i=some v/\Rep K G v d:=by
 unfold atI at h ⊢;rw[r.length];cases e:ixN ds.length i with
 |none=>rw[e] at h;cases h
 |some j=>
  rw[e] at h;exact r.getD h
def zkT:R2F K (zlR K) ixD:=by
 intro x y H os d e c Q al r1 r2 h k;unfold ixD at h;split at h
 ·obtain⟨a,xs,rfl,hS,_,r⟩:=r1.tup;have⟨v,e,rv⟩:=zdC r h;exact⟨true,a,xs,_,v,rfl,r2.int,hS,e,k v H (Same.refl H) rv⟩
 ·obtain⟨a,xs,rfl,hS,r⟩:=r1.lst;have⟨v,e,rv⟩:=zdC r h;exact⟨false,a,xs,_,v,rfl,r2.int,hS,e,k v H (Same.refl H) rv⟩
 ·cases h
def Jq:PyData->PyData->Option PyData
 | .tuple ds,.tuple es=>if ds.length+es.length<=16777216 then some (.tuple (ds++es)) else none
 |_,_=>none
def vK:R2F K (zic K) Jq:=by
 intro x y H os d e c Q al r1 r2 h k;unfold Jq at h;split at h
 ·rename_i ds es;split at h
  ·rename_i hc;cases h;obtain⟨a,xs,rfl,hS,hSo,r⟩:=r1.tup;obtain⟨b,ys,rfl,hT,hTo,q⟩:=r2.tup;have l1:=r.length;have l2:=q.length
   refine⟨a,b,xs,ys,rfl,rfl,hS,hT,by rw[l1,l2];exact hc,λz=>?_,λz w=>?_,λz w p hp=>?_⟩
   ·subst z;cases r;exact k _ H (Same.refl H) (.tup hTo q)
   ·subst w;cases q;rw[kj] at k;exact k _ H (Same.refl H) (.tup hSo r)
   ·have s:=ya hp (.tup (xs++ys));refine k _ _ s (.tup (SqT.of ?_) ((r.append q).same (zm s os)));rw[zw (al.new hp)];exact zH
  ·cases h
 ·cases h
def jV{H:Hp}{os:LAd}{p:AdX}{o:HO}{xs:List V}{ds:LPd}(hp:H p=none)(r:Reps K (offs H os) xs ds):Reps K (offs (upd H p o) (p::os)) xs ds:=by
 rw[jA];refine r.same λb o z=>?_
 by_cases hb:b∈os
 ·rw[xN hb] at z;cases z
 ·rw[zw hb] at z;rw[zw]
  ·exact z
  ·intro w;rcases qx.mp w with w|w
   ·rw[w,hp] at z;cases z
   ·exact hb w
end
def FK(X:Cx)(e:Expr)(f:RLx):Prop:=∃t:TE,PE X e t/\∀(σ:St)(H:Hp)(os:LAd)(ρ:Ro)(ds:LPd)(Q:VK),xC X.K H os σ ρ->f ρ=some ds->
  (∀a xs H',Same H H'->H' a=some (.lst xs)->Reps X.K (offs H' os) xs ds->Q (.ref a) H')->t σ H Q
def gk(i:Nat):RLx:=λρ=>match ρ[i]? with |some (.ow ds)=>some ds|_=>none
section
variable{X:Cx}{e a b:Expr}{pos:Pos}
def FL.fk{f:RLx}(h:FL X e f):FK X e f:=by
 have⟨t,h1,h2⟩:=h;exact⟨t,h1,λσ H os ρ ds Q R q k=>h2 σ H os ρ ds Q R q λa xs H' n s hx r=>k a xs H' s hx (r.same (xh λb hb=>qA _ hb))⟩
def wJ{i:Nat}{ρ:Ro}{ds:LPd}(q:gk i ρ=some ds):ρ[i]?=some (.ow ds):=by
 unfold gk at q;split at q
 ·rename_i e;cases q;exact e
 ·cases q
def zej(i:Nat){x:Str}(hN:X.N[i]?=some x:=by rfl)(hv:Vis X.env.scope x:=by trivial)(hd:NDx x:=by decide)(hcd:NCx x:=by decide):FK X (.Name x pos) (gk i):=by
 refine⟨_,yv hN hv hd hcd,λσ H os ρ d Q R q k=>?_⟩;obtain⟨a,xs,h1,h2,h3,h4⟩:=R.ow i d (wJ q);exact⟨_,h1,k _ _ H (Same.refl H) h3 h4⟩
def zgO(f g:RLx):RLx:=λρ=>(f ρ).bind λx=>(g ρ).bind λy=>if x.length+y.length<=16777216 then some (x++y) else none
def zie{f g:RLx}(ha:FK X a f)(hb:FK X b g):FL X (.BinOp a .Add b pos) (zgO f g):=by
 have⟨ta,pa,qa⟩:=ha;have⟨tb,pb,qb⟩:=hb;refine⟨_,zbh zlN pa pb,λσ H os ρ c Q R q k=>?_⟩;have⟨x,e1,q⟩:=bind_some q;have⟨y,e2,q⟩:=bind_some q;split at q
 ·rename_i hl;cases q;refine qa σ H os ρ x _ R e1 λa xs H1 s1 h1 r1=>qb σ H1 os ρ y _ (R.same s1) e2 λb ys H2 s2 h2 r2=>?_
  have l1:=r1.length;have l2:=r2.length
  refine⟨a,b,xs,ys,rfl,rfl,s2 _ _ h1,h2,by rw[l1,l2];exact hl,λp hp=>?_⟩;exact k p _ _ (s1.free (s2.free hp)) ((s1.trans s2).trans (ya hp _)) zH (jV hp ((r1.same (zm s2 os)).append r2))
 ·cases q
def zim(f:RLx)(g:RPx):RLx:=λρ=>(f ρ).bind λx=>match g ρ with
 |some (.int k)=>if -(2 ^ 63)<=k/\k<2 ^ 63/\x.length*k.toNat<=16777216 then some (List.replicate k.toNat x).flatten else none
 |_=>none
theorem Vl{K:FRx}{H:Hp}{xs:List V}{ds:LPd}(r:Reps K H xs ds):∀k:Nat,Reps K H (List.replicate k xs).flatten (List.replicate k ds).flatten
 |0=>.nil
 |k+1=>by
  rw[gD,gD,hZ,hZ];exact r.append (Vl r k)
def zia{f:RLx}{g:RPx}(ha:FK X a f)(hb:FE X b g):FL X (.BinOp a .Mult b pos) (zim f g):=by
 have⟨ta,pa,qa⟩:=ha;have⟨tb,pb,qb⟩:=hb;refine⟨_,zbh zik pa pb,λσ H os ρ c Q R q k=>?_⟩;have⟨x,e1,q⟩:=bind_some q;split at q
 ·rename_i n e2;split at q
  ·rename_i hl;cases q;refine qa σ H os ρ x _ R e1 λa xs H1 s1 h1 r1=>qb σ H1 os ρ _ _ (R.same s1) e2 λv H2 s2 r2=>?_
   cases r2;have l1:=r1.length;refine⟨a,n,xs,rfl,rfl,s2 _ _ h1,hl.1,hl.2.1,by rw[l1];exact hl.2.2,λp hp=>?_⟩;exact k p _ _ (s1.free (s2.free hp)) ((s1.trans s2).trans (ya hp _)) zH (jV hp (Vl (r1.same (zm s2 os)) _))
  ·cases q
 ·cases q
def FO(X:Cx)(e:Option Expr)(f:Ro->Option (Option Int)):Prop:=∃t:TO,PO X e t/\∀(σ:St)(H:Hp)(os:LAd)(ρ:Ro)(d:Option Int)(Q:Option Int->Hp->Prop),xC X.K H os σ ρ->f ρ=some d->(∀H',Same H H'->Q d H')->t σ H Q
def o0:Ro->Option (Option Int):=λ_=>some none
def oS(f:RPx):Ro->Option (Option Int):=λρ=>match f ρ with |some (.int i)=>some (some i)|_=>none
def zfE:FO X none o0:=⟨_,zjb,λ_ H _ _ _ _ _ q k=>by cases q;exact k H (Same.refl H)⟩
def J1{f:RPx}(h:FE X e f):FO X (some e) (oS f):=by
 have⟨t,p,q⟩:=h;refine⟨_,zj9 p,λσ H os ρ d Q R e k=>?_⟩;unfold oS at e;split at e
 ·rename_i i e1;cases e;refine q σ H os ρ _ _ R e1 λv H' s r=>?_
  cases r;exact⟨i,rfl,k H' s⟩
 ·cases e
def cut(ds:LPd)(lo hi:Option Int):List PyData:=(ds.drop (HT.sIx ds.length 0 lo)).take (HT.sIx ds.length ds.length hi - HT.sIx ds.length 0 lo)
def zc6{K:FRx}{H:Hp}{xs:List V}{ds:LPd}(r:Reps K H xs ds)(lo hi:Option Int):Reps K H (zgu xs lo hi) (cut ds lo hi):=by
 unfold zgu cut;rw[r.length];exact(r.drop _).take _
def slL(f:RPx)(l h:Ro->Option (Option Int)):RLx:=λρ=>match f ρ with
 |some (.list ds)=>(l ρ).bind λlo=>(h ρ).bind λhi=>some (cut ds lo hi)
 |_=>none
variable{lo hi:Option Expr}{p2:Pos}{l h:Ro->Option (Option Int)}{f:RPx}
def Zu(ha:FB X e f)(hl:FO X lo l)(hh:FO X hi h):FL X (.Subscript e (.Slice lo hi none p2) pos) (slL f l h):=by
 have⟨ta,pa,qa⟩:=ha;have⟨tl,pl,ql⟩:=hl;have⟨th,ph,qh⟩:=hh;refine⟨_,zcx zf5 pa pl ph,λσ H os ρ c Q R q k=>?_⟩;unfold slL at q;split at q
 ·rename_i ds e1;have⟨a,e2,q⟩:=bind_some q;have⟨b,e3,q⟩:=bind_some q;cases q;refine qa σ H os ρ _ _ R e1 λv H1 s1 r1=>ql σ H1 os ρ a _ (R.same s1) e2 λH2 s2=>qh σ H2 os ρ b _ (R.same (s1.trans s2)) e3 λH3 s3=>?_
  obtain⟨p,xs,rfl,hS,r⟩:=(r1.same (s2.trans s3)).lst;exact⟨p,xs,rfl,hS,λq hq=>k q _ _ ((s1.trans s2).trans s3 |>.free hq) (((s1.trans s2).trans s3).trans (ya hq _)) zH (jV hq (zc6 r a b))⟩
 ·cases q
def CRF(K:FRx)(r:List V->Hp->VK->Prop)(h:LPx):Prop:=∀(xs:List V)(H:Hp)(os:LAd)(ds:LPd)(c:PdX)(Q:VK),Al H os->j5 K H os xs ds->h ds=some c->(∀v H',Same H H'->Rep K (offs H' os) v c->Q v H')->r xs H Q
def CRL(K:FRx)(r:List V->Hp->VK->Prop)(h:LLx):Prop:=∀(xs:List V)(H:Hp)(os:LAd)(ds:LPd)(c:LPd)(Q:VK),Al H os->j5 K H os xs ds->h ds=some c->
  (∀a xs H',H a=none->Same H H'->H' a=some (.lst xs)->Reps K (offs H' (a::os)) xs c->Q (.ref a) H')->r xs H Q
def zg(h:LPx)(g:RLx):RPx:=λρ=>(g ρ).bind h
def y3(h:LLx)(g:RLx):RLx:=λρ=>(g ρ).bind h
variable{x:Str}{p:Pos}{es:List Expr}{ga:RLx}{id T:String}{r:List V->Hp->VK->Prop}
def zT{h:LPx}(hc:vF X (.builtin id) r)(hr:CRF X.K r h)(hg:Gl X x)(hm:X.mg x=none)(hv:bootBuiltins x=some (.builtin id))(ha:FAB X (e::es) ga)(hn:x≠"__name__":=by decide)(hdb:NDx x:=by decide)(he:SEx X e es:=by rfl)(hpl:PLx X pos es:=by rfl):FE X (.Call (.Name x p) (e::es) [] pos) (zg h ga):=by
 have⟨t,pa,qa⟩:=ha;refine⟨_,V7 hc hg hm hv pa hn hdb he hpl,λσ H os ρ c Q R q k=>?_⟩;have⟨ds,e1,e2⟩:=bind_some q;exact qa σ H os ρ ds _ R e1 λvs H' s rv=>hr vs H' os ds c Q (R.al.same s) rv e2 λv H2 s2=>k v H2 (s.trans s2)
def zQ{h:LPx}(hc:vF X (.type T) r)(hr:CRF X.K r h)(hg:Gl X x)(hm:X.mg x=none)(hv:bootBuiltins x=some (.type T))(ha:FAB X (e::es) ga)(hn:x≠"__name__":=by decide)(hdb:NDx x:=by decide)(he:SEx X e es:=by rfl)(hpl:PLx X pos es:=by rfl):FE X (.Call (.Name x p) (e::es) [] pos) (zg h ga):=by
 have⟨t,pa,qa⟩:=ha;refine⟨_,JV hc hg hm hv pa hn hdb he hpl,λσ H os ρ c Q R q k=>?_⟩;have⟨ds,e1,e2⟩:=bind_some q;exact qa σ H os ρ ds _ R e1 λvs H' s rv=>hr vs H' os ds c Q (R.al.same s) rv e2 λv H2 s2=>k v H2 (s.trans s2)
def vP{h:LLx}(hc:vF X (.type T) r)(hr:CRL X.K r h)(hg:Gl X x)(hm:X.mg x=none)(hv:bootBuiltins x=some (.type T))(ha:FAB X (e::es) ga)(hn:x≠"__name__":=by decide)(hdb:NDx x:=by decide)(he:SEx X e es:=by rfl)(hpl:PLx X pos es:=by rfl):FL X (.Call (.Name x p) (e::es) [] pos) (y3 h ga):=by
 have⟨t,pa,qa⟩:=ha;refine⟨_,JV hc hg hm hv pa hn hdb he hpl,λσ H os ρ c Q R q k=>?_⟩;have⟨ds,e1,e2⟩:=bind_some q;exact qa σ H os ρ ds _ R e1 λvs H' s rv=>hr vs H' os ds c Q (R.al.same s) rv e2 λa xs H2 n s2=>k a xs H2 (s.free n) (s.trans s2)
def yj:List PyData->Option PyData
 |[.list ds]=>some (.int ds.length)
 |[.tuple ds]=>some (.int ds.length)
 |_=>none
def zW:List PyData->Option PyData
 |[.list ds]=>some (.tuple ds)
 |[.tuple ds]=>some (.tuple ds)
 |_=>none
def uB:List PyData->Option (List PyData)
 |[.list ds]=>some ds
 |[.tuple ds]=>some ds
 |_=>none
def zky:List PyData->Option PyData
 |[.int i]=>some (.int (if i<0 then -i else i))
 |_=>none
def maxD:List PyData->Option PyData
 |[.int i,.int j]=>some (.int (if j>i then j else i))
 |_=>none
def zcY:PyData->Option Int
 | .int i=>some i
 |_=>none
def Jp{α β:Type}(h:α->Option β):List α->Option (List β)
 |[]=>some []
 |x::r=>(h x).bind λy=>(Jp h r).map (y::·)
def zhW:List PyData->Option PyData
 |[.list ds]=>(Jp zcY ds).map λns=>.int ns.sum
 |_=>none
theorem Za{K:FRx}{H:Hp}:∀{ds:LPd} {xs:List V} {ns:List Int},Reps K H xs ds->Jp zcY ds=some ns->xs=ns.map V.int
 |[],_,_,r,h=>by cases r;cases h;rfl
 |d::r,_,_,q,h=>by
  cases q with
  |cons h1 h2=>
   have⟨y,e1,h⟩:=bind_some h;have⟨ys,e2,e3⟩:=map_some h;subst e3;rw[Za h2 e2];cases d<;>cases e1
   cases h1;rfl
end
section
variable{K:FRx}
def xm:CRF K (λxs H Q=>∃p ys,xs=[.ref p]/\(SqL K H p ys\/SqT K H p ys)/\Q (.int ys.length) H) yj:=by
 intro xs H os ds c Q al rv h k;unfold yj at h;split at h
 ·cases h;obtain⟨v,rfl,r⟩:=rv.one;obtain⟨a,ys,rfl,hS,r⟩:=r.lst;exact⟨a,ys,rfl,.inl hS,by rw[r.length];exact k _ H (Same.refl H) (.int _)⟩
 ·cases h;obtain⟨v,rfl,r⟩:=rv.one;obtain⟨a,ys,rfl,hS,_,r⟩:=r.tup;exact⟨a,ys,rfl,.inr hS,by rw[r.length];exact k _ H (Same.refl H) (.int _)⟩
 ·cases h
def yh:CRF K (λxs H Q=>∃p ys,xs=[.ref p]/\((SqL K H p ys/\∀l,H l=none->Q (.ref l) (upd H l (.tup ys)))\/(SqT K H p ys/\Q (.ref p) H))) zW:=by
 intro xs H os ds c Q al rv h k;unfold zW at h;split at h
 ·cases h;obtain⟨v,rfl,r⟩:=rv.one;obtain⟨a,ys,rfl,hS,r⟩:=r.lst;refine⟨a,ys,rfl,.inl ⟨hS,λl hl=>?_⟩⟩;have s:=ya hl (.tup ys);refine k _ _ s (.tup (SqT.of ?_) (r.same (zm s os)));rw[zw (al.new hl)];exact zH
 ·cases h;obtain⟨v,rfl,r⟩:=rv.one;obtain⟨a,ys,rfl,hS,hSo,r⟩:=r.tup;exact⟨a,ys,rfl,.inr ⟨hS,k _ H (Same.refl H) (.tup hSo r)⟩⟩
 ·cases h
def Wq:CRL K (λxs H Q=>∃p ys,xs=[.ref p]/\(SqL K H p ys\/SqT K H p ys)/\∀l,H l=none->Q (.ref l) (upd H l (.lst ys))) uB:=by
 intro xs H os ds c Q al rv h k;unfold uB at h;split at h
 ·cases h;obtain⟨v,rfl,r⟩:=rv.one;obtain⟨a,ys,rfl,hS,r⟩:=r.lst;exact⟨a,ys,rfl,.inl hS,λl hl=>k l ys _ hl (ya hl _) zH (jV hl r)⟩
 ·cases h;obtain⟨v,rfl,r⟩:=rv.one;obtain⟨a,ys,rfl,hS,_,r⟩:=r.tup;exact⟨a,ys,rfl,.inr hS,λl hl=>k l ys _ hl (ya hl _) zH (jV hl r)⟩
 ·cases h
def zla:CRF K (λxs H Q=>∃i,xs=[.int i]/\Q (.int (if i<0 then -i else i)) H) zky:=by
 intro xs H os ds c Q al rv h k;unfold zky at h;split at h
 ·cases h;obtain⟨v,rfl,r⟩:=rv.one;cases r.int;exact⟨_,rfl,k _ H (Same.refl H) (.int _)⟩
 ·cases h
def zkX:CRF K (λxs H Q=>∃i j,xs=[.int i,.int j]/\Q (.int (if j>i then j else i)) H) maxD:=by
 intro xs H os ds c Q al rv h k;unfold maxD at h;split at h
 ·cases h;obtain⟨v,u,rfl,r,r'⟩:=rv.two;cases r.int;cases r'.int;exact⟨_,_,rfl,k _ H (Same.refl H) (.int _)⟩
 ·cases h
def zm1:CRF K (λxs H Q=>∃(p:AdX)(ns:List Int),xs=[.ref p]/\SqL K H p (ns.map V.int)/\Q (.int ns.sum) H) zhW:=by
 intro xs H os ds c Q al rv h k;unfold zhW at h;split at h
 ·have⟨ns,e1,e2⟩:=map_some h;subst e2;obtain⟨v,rfl,r⟩:=rv.one;obtain⟨a,ys,rfl,hS,r⟩:=r.lst;rw[Za r e1] at hS;exact⟨a,ns,rfl,hS,k _ H (Same.refl H) (.int _)⟩
 ·cases h
end
def zgE(T:String):PyData->Option PyData
 | .int _=>if T="int" then some (.bool true) else if T="bool" then some (.bool false) else if T="tuple" then some (.bool false) else none
 | .bool _=>if T="int" then some (.bool true) else if T="bool" then some (.bool true) else none
 | .tuple _=>if T="tuple" then some (.bool true) else if T="list" then some (.bool false) else if T="int" then some (.bool false) else none
 | .list _=>if T="list" then some (.bool true) else if T="tuple" then some (.bool false) else if T="int" then some (.bool false) else none
 |_=>none
def zlA{K:FRx}{H:Hp}{os:LAd}{v:V}{d:PdX}{T:String}{c:PdX}(r:jL K H os v d)(h:zgE T d=some c):∃b,c=.bool b/\IsI K H v T b:=by
 unfold zgE at h;split at h
 ·cases r.int;split at h
  ·rename_i e;subst e;cases h;exact⟨_,rfl,.int_int _⟩
  ·split at h
   ·rename_i e;subst e;cases h;exact⟨_,rfl,.int_bool _⟩
   ·split at h
    ·rename_i e;subst e;cases h;exact⟨_,rfl,.int_tup _⟩
    ·cases h
 ·cases r.bl;split at h
  ·rename_i e;subst e;cases h;exact⟨_,rfl,.bl_int _⟩
  ·split at h
   ·rename_i e;subst e;cases h;exact⟨_,rfl,.bl_bool _⟩
   ·cases h
 ·obtain⟨a,xs,rfl,hS,_,_⟩:=r.tup;split at h
  ·rename_i e;subst e;cases h;exact⟨_,rfl,.tup_tup hS⟩
  ·split at h
   ·rename_i e;subst e;cases h;exact⟨_,rfl,.tup_lst hS⟩
   ·split at h
    ·rename_i e;subst e;cases h;exact⟨_,rfl,.tup_int hS⟩
    ·cases h
 ·obtain⟨a,xs,rfl,hS,_⟩:=r.lst;split at h
  ·rename_i e;subst e;cases h;exact⟨_,rfl,.lst_lst hS⟩
  ·split at h
   ·rename_i e;subst e;cases h;exact⟨_,rfl,.lst_tup hS⟩
   ·split at h
    ·rename_i e;subst e;cases h;exact⟨_,rfl,.lst_int hS⟩
    ·cases h
 ·cases h
section
variable{X:Cx}{e:Expr}{f:RPx}{pos p p2:Pos}{T:String}{tn:Str}
def zeM(ha:FB X e f)(hg:Gl X "isinstance")(hm:X.mg "isinstance"=none)(hgt:Gl X tn)(hmt:X.mg tn=none)(ht:bootBuiltins tn=some (.type T))(hn:tn≠"__name__":=by decide)(hdb:NDx tn:=by decide)(he:starEach [e,.Name tn p2] X.env=(false,eval e X.env)::starEach [.Name tn p2] X.env:=by rfl)(he2:starEach [.Name tn p2] X.env=(false,eval (.Name tn p2) X.env)::starEach [] X.env:=by rfl)(hpl:(backTo pos (starEach [.Name tn p2] X.env)).any (·.1)=false:=by rfl):FE X (.Call (.Name "isinstance" p) [e,.Name tn p2] [] pos) (op1 (zgE T) f):=by
 have⟨t,pa,qa⟩:=ha;refine⟨_,V7 zhK hg hm zaA (yJ pa (yJ (zkt (v:=.ty T) hgt hmt ht rfl hn hdb) xP he2) he) (by decide) (by decide) he hpl,λσ H os ρ c Q R q k=>?_⟩;have⟨d,e1,e2⟩:=bind_some q;refine qa σ H os ρ d _ R e1 λv H' s rv=>?_
 obtain⟨b,rfl,hi⟩:=zlA rv e2;exact⟨v,T,b,rfl,hi,k _ H' s (.bl b)⟩
end
end L2.Fu
namespace L2.Fu
open PySem PySem.Spec PyProof.Rows
def spF(K:FRx)(f:LPx):Sp:=λvs H Q _=>∃os ds r,Al H os/\Reps K (offs H os) vs ds/\f ds=some r/\∀v H',Same H H'->Rep K (offs H' os) v r->Q v H'
def spL(K:FRx)(f:LLx):Sp:=λvs H Q _=>∃os ds r,Al H os/\Reps K (offs H os) vs ds/\f ds=some r/\
 ∀a xs H',H a=none->Same H H'->H' a=some (.lst xs)->Reps K (offs H' (a::os)) xs r->Q (.ref a) H'
abbrev yA(P:Program)(w:World)(K:FRx)(mg:Str->Option Value)(base:Heap)(k:Nat)(x:Str)(ps:LSr)(f:LPx):Prop:=Def P w K mg base CX0 k x ps (spF K f)
abbrev x3(P:Program)(w:World)(K:FRx)(mg:Str->Option Value)(base:Heap)(k:Nat)(x:Str)(ps:LSr)(f:LLx):Prop:=Def P w K mg base CX0 k x ps (spL K f)
def zkm:PyData->Bool
 | .int _=>true
 | .bool _=>true
 | .none=>true
 | .str _=>true
 |_=>false
def zmr{K:FRx}{H H':Hp}{v:V}{d:PdX}(h:zkm d=true)(r:Rep K H v d):Rep K H' v d:=by
 cases r with
 |non=>exact .non
 |bl b=>exact .bl b
 |int i=>exact .int i
 |str x=>exact .str x
 |tup _ _=>cases h
 |lst _ _=>cases h
def ZZ(h:LPx)(g:RLx):RPx:=λρ=>(g ρ).bind λds=>(h ds).bind λr=>if zkm r=true then some r else none
section
variable{X:Cx}{k k':Nat}{x:Str}{ps:LSr}{p pos:Pos}{e:Expr}{es:List Expr}{ga:RLx}
def zo{f:LPx}(D:yA X.prog X.w X.K X.mg X.base k x ps f)(hr:Room k' X.A)(hg:Gl X x)(ha:FA X (e::es) ga)(hk:k<=k':=by decide)(hdb:NDx x:=by decide)(he:SEx X e es:=by rfl)(hpl:PLx X pos es:=by rfl):FE X (.Call (.Name x p) (e::es) [] pos) (zg f ga):=by
 have⟨t,pa,qa⟩:=ha;refine⟨_,WU D hr hg Jn pa hk hdb he hpl,λσ H os ρ c Q R q k=>?_⟩;have⟨ds,e1,e2⟩:=bind_some q;refine qa σ H os ρ ds _ R e1 λvs H' s rv=>?_
 rw[kj];exact⟨os,ds,c,R.al.same s,rv,e2,λv H2 s2=>k v H2 (s.trans s2)⟩
def jD{f:LLx}(D:x3 X.prog X.w X.K X.mg X.base k x ps f)(hr:Room k' X.A)(hg:Gl X x)(ha:FA X (e::es) ga)(hk:k<=k':=by decide)(hdb:NDx x:=by decide)(he:SEx X e es:=by rfl)(hpl:PLx X pos es:=by rfl):FL X (.Call (.Name x p) (e::es) [] pos) (y3 f ga):=by
 have⟨t,pa,qa⟩:=ha;refine⟨_,WU D hr hg Jn pa hk hdb he hpl,λσ H os ρ c Q R q k=>?_⟩;have⟨ds,e1,e2⟩:=bind_some q;refine qa σ H os ρ ds _ R e1 λvs H' s rv=>?_
 rw[kj];exact⟨os,ds,c,R.al.same s,rv,e2,λa xs H2 n s2=>k a xs H2 (s.free n) (s.trans s2)⟩
def zdR{f:LPx}(D:yA X.prog X.w X.K X.mg X.base k x ps f)(hr:Room k' X.A)(hg:Gl X x)(ha:FAB X (e::es) ga)(hk:k<=k':=by decide)(hdb:NDx x:=by decide)(he:SEx X e es:=by rfl)(hpl:PLx X pos es:=by rfl):FE X (.Call (.Name x p) (e::es) [] pos) (ZZ f ga):=by
 have⟨t,pa,qa⟩:=ha;refine⟨_,WU D hr hg Jn pa hk hdb he hpl,λσ H os ρ c Q R q k=>?_⟩;have⟨ds,e1,q⟩:=bind_some q;have⟨r,e2,q⟩:=bind_some q;split at q
 ·rename_i hs;cases q;refine qa σ H os ρ ds _ R e1 λvs H' s rv=>?_
  rw[kj];have e0:offs H' []=H':=by funext b;exact zw (by simp)
  refine⟨[],ds,c,Al.nil _,by rw[e0];exact rv.reps,e2,λv H2 s2 rr=>k v H2 (s.trans s2) (zmr hs rr)⟩
 ·cases q
end
def Walks(K:FRx)(G G0:Hp)(J:It)(ds:LPd):Prop:=∀(H1:Hp)(os1:LAd),Al H1 os1->Same G H1->Same G0 (offs H1 os1)->
  (∀(i:Nat)(d:PdX),ds[i]?=some d->J.go i H1/\∀x H2,J.yld i H1 x H2->Same H1 H2/\Rep K (offs H2 os1) x d)/\J.stop ds.length H1
def FI(X:Cx)(tg iter:Expr)(f:RLx):Prop:=∃wi:TI,PI X tg iter wi/\∀(σ:St)(H:Hp)(os:LAd)(ρ:Ro)(ds:LPd)(R:It->Hp->Prop),xC X.K H os σ ρ->f ρ=some ds->
  (∀J H',Same H H'->Walks X.K (offs H' os) (offs H' os) J ds->R J H')->wi σ H R
def FIB(X:Cx)(tg iter:Expr)(f:RLx):Prop:=∃wi:TI,PI X tg iter wi/\∀(σ:St)(H:Hp)(os:LAd)(ρ:Ro)(ds:LPd)(R:It->Hp->Prop),xC X.K H os σ ρ->f ρ=some ds->
  (∀J H',Same H H'->Walks X.K H' (offs H' os) J ds->R J H')->wi σ H R
def Walks.mono{K:FRx}{G G' G0:Hp}{J:It}{ds:LPd}(h:Walks K G G0 J ds)(e:Same G G'):Walks K G' G0 J ds:=λH1 os1 a s s0=>h H1 os1 a (e.trans s) s0
section
variable{X:Cx}{tg iter l:Expr}{f:RLx}{g:RPx}{p pos:Pos}
def FI.fib(h:FI X tg iter f):FIB X tg iter f:=by
 have⟨wi,p,q⟩:=h;exact⟨wi,p,λσ H os ρ ds R rel e k=>q σ H os ρ ds R rel e λJ H' s w=>k J H' s (w.mono (xW H' os))⟩
def yw(g:RPx):RLx:=λρ=>match g ρ with
 |some (.list ds)=>some ds
 |some (.tuple ds)=>some ds
 |_=>none
def ve{K:FRx}{G G0:Hp}{t:Bool}{a:AdX}{xs:List V}{ds:LPd}(hS:SqB K t G a xs)(r:Reps K G0 xs ds):Walks K G G0 (ItB K t a) ds:=by
 intro H1 os1 al s s0;have h1:SqB K t H1 a xs:=s.sqB hS;refine⟨λi d hd=>?_,?_⟩
 ·have⟨v,e,rv⟩:=r.getD hd;cases t
  ·refine⟨⟨xs,v,h1,e⟩,λx H2 hy=>?_⟩;obtain⟨rfl,hy⟩:=hy
   have:=hy xs h1;rw[e] at this;cases this;exact⟨Same.refl _,rv.same s0⟩
  ·refine⟨⟨xs,v,h1,e⟩,λx H2 hy=>?_⟩;obtain⟨rfl,hy⟩:=hy
   have:=hy xs h1;rw[e] at this;cases this;exact⟨Same.refl _,rv.same s0⟩
 ·cases t
  ·exact⟨xs,h1,by rw[r.length];exact qf _⟩
  ·exact⟨xs,h1,by rw[r.length];exact qf _⟩
def Vb(hl:FE X l g):FI X tg l (yw g):=by
 have⟨t,pl,ql⟩:=hl;refine⟨_,ze5 pl,λσ H os ρ ds R rel e k=>?_⟩;unfold yw at e;split at e
 ·rename_i es e1;cases e;refine ql σ H os ρ _ _ rel e1 λv H' s r=>?_
  cases r with
  |lst hS r=>exact⟨_,false,rfl,⟨_,(xW H' os).seq hS⟩,k _ H' s (ve (t:=false) hS r)⟩
 ·rename_i es e1;cases e;refine ql σ H os ρ _ _ rel e1 λv H' s r=>?_
  cases r with
  |tup hS r=>exact⟨_,true,rfl,⟨_,(xW H' os).tup hS⟩,k _ H' s (ve (t:=true) hS r)⟩
 ·cases e
def yn(hl:FB X l g):FIB X tg l (yw g):=by
 have⟨t,pl,ql⟩:=hl;refine⟨_,ze5 pl,λσ H os ρ ds R rel e k=>?_⟩;unfold yw at e;split at e
 ·rename_i es e1;cases e;refine ql σ H os ρ _ _ rel e1 λv H' s r=>?_
  obtain⟨a,xs,rfl,hS,r⟩:=r.lst;exact⟨_,false,rfl,⟨_,hS⟩,k _ H' s (ve (t:=false) hS r)⟩
 ·rename_i es e1;cases e;refine ql σ H os ρ _ _ rel e1 λv H' s r=>?_
  obtain⟨a,xs,rfl,hS,_,r⟩:=r.tup;exact⟨_,true,rfl,⟨_,hS⟩,k _ H' s (ve (t:=true) hS r)⟩
 ·cases e
def jT(lo:Int)(n:Nat):List PyData:=(List.range n).map λi:Nat=>PyData.int (lo+i)
def y4(g:RLx):RLx:=λρ=>match g ρ with
 |some [.int j]=>if -(2 ^ 62)<=j/\j<2 ^ 62 then some (jT 0 j.toNat) else none
 |_=>none
def uk(g:RLx):RLx:=λρ=>match g ρ with
 |some [.int i,.int j]=>if -(2 ^ 62)<=i/\i<2 ^ 62/\-(2 ^ 62)<=j/\j<2 ^ 62 then some (jT i (j - i).toNat) else none
 |_=>none
def VI{lo:Int}{n i:Nat}{d:PdX}(h:(jT lo n)[i]?=some d):i<n/\d=.int (lo+i):=by
 unfold jT at h;rw[qq] at h;by_cases hi:i<n
 ·rw[kd hi] at h;cases h;exact⟨hi,rfl⟩
 ·rw[kJ (by simpa using km hi)] at h;cases h
def zdN{lo:Int}{n:Nat}:(jT lo n).length=n:=by simp[jT]
def Wt{K:FRx}{G G0:Hp}{lo:Int}{n:Nat}:Walks K G G0 (Itr lo n) (jT lo n):=by
 intro H1 os1 al s s0;refine⟨λi d hd=>?_,?_⟩
 ·have⟨h1,h2⟩:=VI hd;subst h2;refine⟨h1,λx H2 hy=>?_⟩;obtain⟨rfl,rfl⟩:=hy;exact⟨Same.refl _,.int _⟩
 ·rw[zdN];exact qf n
variable{a b:Expr}{ga:RLx}
def yG(hg:Gl X "range")(hm:X.mg "range"=none)(ha:FA X [a] ga)(hs:starEach [a] X.env=[(false,eval a X.env)]:=by rfl):FI X tg (.Call (.Name "range" p) [a] [] pos) (y4 ga):=by
 have⟨t,pa,qa⟩:=ha;refine⟨_,zaV hg hm pa hs,λσ H os ρ ds R rel e k=>?_⟩;unfold y4 at e;split at e
 ·rename_i j e1;split at e
  ·rename_i hc;cases e;refine qa σ H os ρ _ _ rel e1 λvs H' s r=>?_
   cases r with
   |cons h r=>cases r;cases h;exact⟨j,rfl,hc.1,hc.2,k _ H' s Wt⟩
  ·cases e
 ·cases e
def zaF(hg:Gl X "range")(hm:X.mg "range"=none)(ha:FA X [a,b] ga)(hs:starEach [a,b] X.env=[(false,eval a X.env),(false,eval b X.env)]:=by rfl)(hs2:starEach [b] X.env=[(false,eval b X.env)]:=by rfl):FI X tg (.Call (.Name "range" p) [a,b] [] pos) (uk ga):=by
 have⟨t,pa,qa⟩:=ha;refine⟨_,zgD hg hm pa hs hs2,λσ H os ρ ds R rel e k=>?_⟩;unfold uk at e;split at e
 ·rename_i i j e1;split at e
  ·rename_i hc;cases e;refine qa σ H os ρ _ _ rel e1 λvs H' s r=>?_
   cases r with
   |cons h r=>cases r with
    |cons h2 r=>cases r;cases h;cases h2;exact⟨i,j,rfl,hc,k _ H' s Wt⟩
  ·cases e
 ·cases e
def Jr(xs ys:LPd):List PyData:=(xs.zip ys).map λp=>.tuple [p.1,p.2]
def zdT{xs ys:LPd}{i:Nat}{d:PdX}(h:(Jr xs ys)[i]?=some d):∃x y,xs[i]?=some x/\ys[i]?=some y/\d=.tuple [x,y]:=by
 unfold Jr at h;rw[qq] at h;have⟨z,e1,e2⟩:=map_some h;obtain⟨h1,h2⟩:=List.getElem?_zip_eq_some.mp e1;exact⟨z.1,z.2,h1,h2,e2.symm⟩
def zcA{xs ys:LPd}:(Jr xs ys).length=min xs.length ys.length:=by simp[Jr]
def WO{K:FRx}{G G0:Hp}{t1 t2:Bool}{a b:AdX}{xs ys:List V}{ds es:LPd}(h1:SqB K t1 G a xs)(h2:SqB K t2 G b ys)(r1:Reps K G0 xs ds)(r2:Reps K G0 ys es):Walks K G G0 (Itz K t1 t2 a b) (Jr ds es):=by
 intro H1 os1 al s s0;have k1:SqB K t1 H1 a xs:=s.sqB h1;have k2:SqB K t2 H1 b ys:=s.sqB h2
 refine⟨λi d hd=>?_,?_⟩
 ·obtain⟨d1,d2,g1,g2,rfl⟩:=zdT hd;have⟨v1,e1,q1⟩:=r1.getD g1;have⟨v2,e2,q2⟩:=r2.getD g2;refine⟨⟨xs,ys,v1,v2,k1,k2,e1,e2⟩,λx H2 hy=>?_⟩;obtain⟨p,rfl,hp,hy⟩:=hy;have e:=hy xs ys v1 v2 k1 k2 e1 e2;subst e;have s2:=ya hp (.tup [v1,v2])
  refine⟨s2,.tup (SqT.of ?_) (.cons ((q1.same s0).same (zm s2 os1)) (.cons ((q2.same s0).same (zm s2 os1)) .nil))⟩;rw[zw (al.new hp)];exact zH
 ·refine⟨xs,ys,k1,k2,?_⟩;rw[zcA,r1.length,r2.length];omega
def kindOf:PyData->Option (Bool×List PyData)
 | .list xs=>some (false,xs)
 | .tuple xs=>some (true,xs)
 |_=>none
def Ue(t1 t2:Bool)(g:RLx):RLx:=λρ=>match g ρ with
 |some [x,y]=>match kindOf x,kindOf y with
  |some (k1,xs),some (k2,ys)=>if k1=t1/\k2=t2 then some (Jr xs ys) else none
  |_,_=>none
 |_=>none
def uH{K:FRx}{H:Hp}{os:LAd}{v:V}{d:PdX}{k:Bool}{xs:LPd}(r:jL K H os v d)(h:kindOf d=some (k,xs)):∃a us,v=.ref a/\SqB K k H a us/\Reps K (offs H os) us xs:=by
 unfold kindOf at h;split at h
 ·cases h;obtain⟨a,us,e,hS,r⟩:=r.lst;exact⟨a,us,e,hS,r⟩
 ·cases h;obtain⟨a,us,e,hS,_,r⟩:=r.tup;exact⟨a,us,e,hS,r⟩
 ·cases h
variable{tes:List Expr}{kk:Nat}{tp:Pos}
def Yw(t1 t2:Bool)(hg:Gl X "zip")(hm:X.mg "zip"=none)(ha:FAB X [a,b] ga)(hs:starEach [a,b] X.env=[(false,eval a X.env),(false,eval b X.env)]:=by rfl)(hs2:starEach [b] X.env=[(false,eval b X.env)]:=by rfl):FIB X (.Tuple tes kk tp) (.Call (.Name "zip" p) [a,b] [] pos) (Ue t1 t2 ga):=by
 have⟨t,pa,qa⟩:=ha;refine⟨_,zeD t1 t2 hg hm pa hs hs2,λσ H os ρ ds R rel e k=>?_⟩;unfold Ue at e;split at e
 ·rename_i x y e1;split at e
  ·rename_i k1 xs k2 ys e2 e3;split at e
   ·rename_i hc;cases e;obtain⟨rfl,rfl⟩:=hc;refine qa σ H os ρ _ _ rel e1 λvs H' s r=>?_
    obtain⟨v,u,rfl,r1,r2⟩:=r.two;obtain⟨a1,us,rfl,h1,q1⟩:=uH r1 e2;obtain⟨a2,ws,rfl,h2,q2⟩:=uH r2 e3;exact⟨a1,a2,rfl,⟨_,h1⟩,⟨_,h2⟩,k _ H' s (WO h1 h2 q1 q2)⟩
   ·cases e
  ·cases e
 ·cases e
end
inductive Sets(K:FRx)(G:Hp):List Nat->St->Ro->St->Ro->Prop
 |nil {σ:St} {ρ:Ro}:Sets K G [] σ ρ σ ρ
 |set {is:LNt} {σ σ':St} {ρ ρ':Ro} {i:Nat} {v:V} {d:PdX}:Rep K G v d->Sets K G is (σ.set i (some v)) (ρ.set i (.pu d)) σ' ρ'->Sets K G (i::is) σ ρ σ' ρ'
def Sets.trans{K:FRx}{G:Hp}{is js:LNt}{σ σ' σ2:St}{ρ ρ' ρ2:Ro}(h:Sets K G is σ ρ σ' ρ')(h2:Sets K G js σ' ρ' σ2 ρ2):Sets K G (is++js) σ ρ σ2 ρ2:=by
 induction h with
 |nil=>exact h2
 |set r _ ih=>exact .set r (ih h2)
def Sets.tail{K:FRx}{G:Hp}{is:LNt}{T:Nat}{σ σ':St}{ρ ρ':Ro}(h:Sets K G is σ ρ σ' ρ')(hT:∀i∈is,i<T):∀{ts c:St},ts.length=T->σ=ts++c->∃ts':St,ts'.length=T/\σ'=ts'++c:=by
 induction h with
 |nil=>exact λht e=>⟨_,ht,e⟩
 |set r _ ih=>
  intro ts c ht e;rename_i is σ σ' ρ ρ' i v d _;refine ih (λj hj=>hT j (qA _ hj)) (ts:=ts.set i (some v)) (c:=c) (by rw[k7];exact ht) ?_;have hi:i<ts.length:=by rw[ht];exact hT i ka
  rw[e,List.set_append_left _ _ hi]
def xC.set{K:FRx}{H:Hp}{os:LAd}{σ:St}{ρ:Ro}(h:xC K H os σ ρ){i:Nat}{v:V}{d:PdX}(r:Rep K (offs H os) v d):xC K H os (σ.set i (some v)) (ρ.set i (.pu d)) where
 pu:=λj e q=>by
  rw[gC] at q ⊢;by_cases hj:i=j
  ·subst hj;rw[qj rfl] at q ⊢;by_cases hl:i<ρ.length
   ·rw[qj hl] at q;cases q;rw[qj (by rw[h.len];exact hl)];exact⟨v,rfl,r⟩
   ·rw[qo hl] at q;cases q
  ·rw[qo hj] at q ⊢;exact h.pu j e q
 mu:=λj e q m=>by
  rw[gC] at q ⊢;by_cases hj:i=j
  ·subst hj;rw[qj rfl] at q;by_cases hl:i<ρ.length
   ·rw[qj hl] at q;cases q;cases m
   ·rw[qo hl] at q;cases q
  ·rw[qo hj] at q ⊢;exact h.mu j e q m
 al:=h.al
 len:=by rw[k7,k7];exact h.len
def xC.sets{K:FRx}{H:Hp}{os:LAd}{is:LNt}{σ σ':St}{ρ ρ':Ro}(s:Sets K (offs H os) is σ ρ σ' ρ')(h:xC K H os σ ρ):xC K H os σ' ρ':=by
 induction s with
 |nil=>exact h
 |set r _ ih=>exact ih (h.set r)
def gF(K:FRx)(is:LNt)(b:PyData->Ro->Option Ro):TG:=λv σ H Q=>∃os d ρ ρ',Rep K (offs H os) v d/\b d ρ=some ρ'/\∀σ',Sets K (offs H os) is σ ρ σ' ρ'->Q σ' H
def FG(X:Cx)(tg:Expr)(is:LNt)(b:PyData->Ro->Option Ro):Prop:=PG X tg (gF X.K is b)
def zfJ{X:Cx}{tg:Expr}{g g':TG}(h:PG X tg g)(w:∀v σ H Q,g' v σ H Q->g v σ H Q):PG X tg g':=λpins s σ H v u Q I r q=>h pins s σ H v u Q I r (w _ _ _ _ q)
def bN(i:Nat):PyData->Ro->Option Ro:=λd ρ=>some (ρ.set i (.pu d))
def b2(b c:PyData->Ro->Option Ro):PyData->Ro->Option Ro:=λd ρ=>match d with
 | .tuple [x,y]=>(b x ρ).bind λρ'=>c y ρ'
 |_=>none
section
variable{X:Cx}{pos p1 p2:Pos}{kk:Nat}
def zY(i:Nat){x:Str}(hN:X.N.Nodup)(hi:X.N[i]?=some x:=by rfl)(hx:Loc X.env.scope x:=by trivial)(hf:FNx X x:=by trivial):FG X (.Name x pos) [i] (bN i):=by
 refine zfJ (zjF hN hi hx hf) λv σ H Q h=>?_
 have⟨os,d,ρ,ρ',r,e,k⟩:=h;cases e;exact k _ (.set r .nil)
def uM{t1 t2:Expr}{is js:LNt}{b c:PyData->Ro->Option Ro}(hc:X.calm=true)(h1:FG X t1 is b)(h2:FG X t2 js c)(hn:(assignEach [t1,t2] X.env).length=2:=by rfl)(hst:(assignEach [t1,t2] X.env).findIdx? (·.1)=none:=by rfl)(he:(assignEach [t1,t2] X.env).map (·.2)=assign t1 X.env::(assignEach [t2] X.env).map (·.2):=by rfl)(he2:(assignEach [t2] X.env).map (·.2)=assign t2 X.env::(assignEach [] X.env).map (·.2):=by rfl):FG X (.Tuple [t1,t2] kk pos) (is++js) (b2 b c):=by
 refine zfJ (zmj (n:=2) hc (zcG h1 (zcG h2 zks he2) he) hn hst) λv σ H Q h=>?_
 have⟨os,d,ρ,ρ',r,e,k⟩:=h;unfold b2 at e;split at e
 ·rename_i x y;have⟨ρ1,e1,e2⟩:=bind_some e;cases r with
  |tup hS r=>cases r with
   |cons r1 r=>cases r with
    |cons r2 r=>
     cases r;refine⟨_,_,rfl,(xW H os).tup hS,rfl,_,_,rfl,os,x,ρ,ρ1,r1,e1,λσ1 s1=>?_⟩;exact⟨_,_,rfl,os,y,ρ1,ρ',r2,e2,λσ2 s2=>⟨rfl,k σ2 (s1.trans s2)⟩⟩
 ·cases e
end
def compEnv(T:Nat)(F:LNt)(ρ:Ro):Ro:=List.replicate T .no++F.map λj=>(ρ[j]?).getD .no
def tF(K:FRx)(f:RPx):TE:=λσ H Q=>∃os ρ d,xC K H os σ ρ/\f ρ=some d/\∀v H',Same H H'->Rep K (offs H' os) v d->Q v H'
def FE.pe{X:Cx}{e:Expr}{f:RPx}(h:FE X e f):PE X e (tF X.K f):=by
 have⟨t,p,q⟩:=h;intro pins s σ H Q I z;have⟨os,ρ,d,R,e1,k⟩:=z;exact p pins s σ H Q I (q σ H os ρ d Q R e1 k)
def zR(T:Nat)(F:LNt)(fi:RLx)(b:PyData->Ro->Option Ro)(fe:RPx):RLx:=λρ=>
 (fi ρ).bind λds=>if ds.length<=16777216 then Jp (λd=>(b d (compEnv T F ρ)).bind fe) ds else none
theorem ZQ{α β:Type}{h:α->Option β}:∀{xs:List α} {ys:List β},Jp h xs=some ys->ys.length=xs.length
 |[],_,e=>by cases e;rfl
 |x::r,_,e=>by
  have⟨y,e1,e⟩:=bind_some e;have⟨ys,e2,e3⟩:=map_some e;subst e3;simp[ZQ e2]
theorem Zt{α β:Type}{h:α->Option β}:∀{xs:List α} {ys:List β} {i:Nat} {x:α},Jp h xs=some ys->xs[i]?=some x->∃y,ys[i]?=some y/\h x=some y
 |[],_,_,_,_,e=>by simp at e
 |x::r,_,i,_,e,g=>by
  have⟨y,e1,e⟩:=bind_some e;have⟨ys,e2,e3⟩:=map_some e;subst e3;cases i with
  |zero=>simp at g;subst g;exact⟨y,rfl,e1⟩
  |succ i=>
   obtain⟨z,h1,h2⟩:=Zt (i:=i) e2 (by simpa using g);exact⟨z,by simpa using h1,h2⟩
def Y8{K:FRx}{H H':Hp}{os:LAd}{σ ts:St}{ρ:Ro}{D:AdX}{xs:List V}(T:Nat)(F:LNt)(R:xC K H os σ ρ)(hD:H D=none)(s:Same H H')(hx:H' D=some (.lst xs))(ht:ts.length=T):xC K H' (D::os) (ts++F.map λj=>(σ[j]?).join) (compEnv T F ρ):=by
 have so:Same (offs H os) (offs H' (D::os)):=λb o z=>by
  by_cases hb:b∈os
  ·rw[xN hb] at z;cases z
  ·rw[zw hb] at z;rw[zw]
   ·exact s b o z
   ·intro w;rcases qx.mp w with w|w
    ·rw[w,hD] at z;cases z
    ·exact hb w
 refine⟨λi d q=>?_,λi c q m=>?_,λa ha=>?_,?_⟩
 ·unfold compEnv at q;by_cases hi:i<T
  ·rw[qK (by simpa using hi),kz,qj hi] at q;cases q
  ·rw[qz (by simpa using km hi),mQ,qq] at q;rw[qz (by rw[ht];exact km hi),ht,qq];cases ej:F[i - T]? with
   |none=>rw[ej] at q;cases q
   |some j=>
    rw[ej] at q;cases er:ρ[j]? with
    |none=>rw[gO,er] at q;cases q
    |some c=>
     rw[gO,er] at q;have ec:c=.pu d:=kb q;subst ec;have⟨v,h1,h2⟩:=R.pu j d er
     exact⟨v,by rw[gO,h1];rfl,h2.same so⟩
 ·unfold compEnv at q;by_cases hi:i<T
  ·rw[qK (by simpa using hi),kz,qj hi] at q;cases q;cases m
  ·rw[qz (by simpa using km hi),mQ,qq] at q;rw[qz (by rw[ht];exact km hi),ht,qq];cases ej:F[i - T]? with
   |none=>rw[ej] at q;cases q
   |some j=>
    rw[ej] at q;cases er:ρ[j]? with
    |none=>rw[gO,er] at q;cases q;cases m
    |some c'=>
     rw[gO,er] at q;have ec:c'=c:=kb q;subst ec;have⟨a,o,h1,h2,h3,h4⟩:=R.mu j c' er m
     exact⟨a,o,by rw[gO,h1];rfl,qA _ h2,s _ _ h3,h4.same so⟩
 ·rcases qx.mp ha with z|z
  ·subst z;exact⟨_,hx⟩
  ·have⟨o,e⟩:=R.al a z;exact⟨o,s _ _ e⟩
 ·simp[compEnv,ht]
def u5{K:FRx}{T:Nat}{F:LNt}{b:PyData->Ro->Option Ro}{fe:RPx}{σ:St}{ρ:Ro}{H1:Hp}{os:LAd}{D:AdX}{is:LNt}{k:Addr->Hp->Prop}{J:It}{ds rs:LPd}(his:∀i∈is,i<T)(R:xC K H1 os σ ρ)(hn:ds.length<=16777216)(hD:H1 D=none)(W:Walks K H1 (offs H1 os) J ds)(hm:Jp (λd=>(b d (compEnv T F ρ)).bind fe) ds=some rs)(fin:∀H' xs,Same H1 H'->H' D=some (.lst xs)->Reps K (offs H' (D::os)) xs rs->k D H'):ziN T F (gF K is b) (tF K fe) k σ H1 D J:=by
 have hlr:=ZQ hm;have so:∀H',Same H1 H'->Same (offs H1 os) (offs H' (D::os)):=λH' s c o z=>by
  by_cases hb:c∈os
  ·rw[xN hb] at z;cases z
  ·rw[zw hb] at z;rw[zw]
   ·exact s c o z
   ·intro w;rcases qx.mp w with w|w
    ·rw[w,hD] at z;cases z
    ·exact hb w
 have al:∀H' xs,Same H1 H'->H' D=some (.lst xs)->Al H' (D::os):=λH' xs s hx a ha=>by
  rcases qx.mp ha with z|z
  ·subst z;exact⟨_,hx⟩
  ·have⟨o,e⟩:=R.al a z;exact⟨o,s _ _ e⟩
 refine⟨λi m σ' H'=>m=ds.length - i/\i<=ds.length/\(∃ts:St,ts.length=T/\σ'=ts++F.map λj=>(σ[j]?).join)/\Same H1 H'/\∃xs,H' D=some (.lst xs)/\Reps K (offs H' (D::os)) xs (rs.take i),
  ⟨ds.length,rfl,kE _,⟨List.replicate T none,by simp,rfl⟩,ya hD _,[],zH,.nil⟩,?_⟩
 rintro i m σ' H' ⟨rfl,hi,⟨ts,hts,rfl⟩,sm,xs,hx,rp⟩;have hl:xs.length=i:=by
  have:=rp.length;rw[kD,hlr] at this;omega
 obtain⟨w1,w2⟩:=W H' (D::os) (al H' xs sm hx) sm (so H' sm);by_cases hlt:i<ds.length
 ·obtain⟨d,hd⟩:∃d,ds[i]?=some d:=⟨_,qk hlt⟩;have⟨g1,g2⟩:=w1 i d hd;have⟨r,hr,e⟩:=Zt hm hd;have⟨ρ',e1,e2⟩:=bind_some e;refine .inr ⟨g1,λσ2 H2=>i+1<=ds.length/\(∃ts:St,ts.length=T/\σ2=ts++F.map λj=>(σ[j]?).join)/\Same H1 H2/\∃xs,H2 D=some (.lst xs)/\Reps K (offs H2 (D::os)) xs (rs.take (i+1)),?_,?_⟩
  ·rintro σ2 H2 ⟨h1,h2,h3,h4⟩;exact⟨ds.length - (i+1),by omega,rfl,h1,h2,h3,h4⟩
  ·intro x H2 hy;have⟨s2,rx⟩:=g2 x H2 hy;refine⟨D::os,d,compEnv T F ρ,ρ',rx,e1,λσ2 st=>?_⟩;have R2:xC K H2 (D::os) (ts++F.map λj=>(σ[j]?).join) (compEnv T F ρ):=Y8 T F R hD (sm.trans s2) (s2 _ _ hx) hts;have hts2:∃ts':St,ts'.length=T/\σ2=ts'++F.map λj=>(σ[j]?).join:=st.tail his hts rfl
   refine⟨D::os,ρ',r,R2.sets st,e2,λv H4 s4 rv=>?_⟩;refine⟨xs,s4 _ _ (s2 _ _ hx),?_,hlt,hts2,((sm.trans s2).trans s4).WZ hD _,_,zH,?_⟩
   ·rw[hl];show i<16777216
    omega
   ·rw[jA,gR,hr];exact(rp.same (zm (s2.trans s4) _)).append (.cons rv .nil)
 ·have e:i=ds.length:=by omega
  subst e;refine .inl ⟨w2,fin H' xs sm hx ?_⟩;rw[<-hlr,gx] at rp;exact rp
section
variable{X:Cx}{elt tg iter:Expr}{scope:Scope}{pos:Pos}{Ts:LSr}{F:LNt}{is:LNt}{fi:RLx}{b:PyData->Ro->Option Ro}{fe:RPx}
def yf(hc:X.calm=true)(hi:FIB X tg iter fi)(S:yc X scope)(hF:∀j∈F,∃x,X.N[j]?=some x/\scope.names.lookup x=some .free)(hg:∀cl C ex s H,FG (z9 X (Ts++F.map λj=>X.N.getD j "") scope cl C ex s H) tg is b)(he:∀cl C ex s H,FE (z9 X (Ts++F.map λj=>X.N.getD j "") scope cl C ex s H) elt fe)(his:∀i∈is,i<Ts.length:=by decide)(hs:FSx X iter:=by exact λ_=>rfl):FL X (.ListComp elt [⟨tg,iter,[],0⟩] scope pos) (zR Ts.length F fi b fe):=by
 have⟨wi,pi,qi⟩:=hi;refine⟨_,zfh (Ts:=Ts) (F:=F) (g:=gF X.K is b) (te:=tF X.K fe) hc pi S hF hg (λcl C ex s H=>(he cl C ex s H).pe) hs,λσ H os ρ rs Q R q k=>?_⟩;have⟨ds,e1,q⟩:=bind_some q;split at q
 ·rename_i hl;refine qi σ H os ρ ds _ R e1 λJ H' s W D hD=>?_
  exact u5 his (R.same s) hl hD W q λH2 xs s2 hx r=>k D xs H2 (s.free hD) (s.trans s2) hx r
 ·cases q
end
structure SRo(K:FRx)(H0:Hp)(os0:LAd)(H:Hp)(os:LAd)(σ:St)(ρ:Ro):Prop where
 rel:xC K H os σ ρ
 sm:Same H0 H
 sub:∀a∈os0,a∈os
 new:∀a∈os,a∈os0\/H0 a=none
 al0:Al H0 os0
 own:∀(i:Nat)(c:Sl),ρ[i]?=some c->isM c=true->∀a,σ[i]?=some (some (.ref a))->H0 a=none
 ap:∀(i j:Nat)(c c':Sl),i≠j->ρ[i]?=some c->ρ[j]?=some c'->isM c=true->isM c'=true->∀a,σ[i]?=some (some (.ref a))->σ[j]?≠some (some (.ref a))
inductive Fl where
 |nx (ρ:Ro)|rt (d:PdX)|rl (ds:LPd)
abbrev RFx:=Ro->Option Fl
def ZW(K:FRx)(H0:Hp)(os0:LAd)(G:Hp)(D:Ends):Fl->Prop
 | .nx ρ'=>∀σ' H' os',SRo K H0 os0 H' os' σ' ρ'->Same G (offs H' os')->D.nx σ' H'
 | .rt d=>∀v H',Same H0 H'->Rep K (offs H' os0) v d->D.rt v H'
 | .rl ds=>∀a xs H',H0 a=none->Same H0 H'->H' a=some (.lst xs)->Reps K (offs H' (a::os0)) xs ds->D.rt (.ref a) H'
def ZW.mono{K:FRx}{H0:Hp}{os0:LAd}{G G':Hp}{D:Ends}{r:Fl}(k:ZW K H0 os0 G D r)(s:Same G G'):ZW K H0 os0 G' D r:=by
 cases r with
 |nx ρ=>exact λσ' H' os' R z=>k σ' H' os' R (s.trans z)
 |rt d=>exact k
 |rl d=>exact k
def FS(X:Cx)(st:Stmt)(f:RFx):Prop:=∃t:TS,PS X st t/\∀(H0:Hp)(os0:LAd)(D:Ends)(σ:St)(H:Hp)(os:LAd)(ρ:Ro)(r:Fl),SRo X.K H0 os0 H os σ ρ->f ρ=some r->ZW X.K H0 os0 (offs H os) D r->t D σ H
def FSs(X:Cx)(sts:List Stmt)(f:RFx):Prop:=∃t:TS,PSs X sts t/\∀(H0:Hp)(os0:LAd)(D:Ends)(σ:St)(H:Hp)(os:LAd)(ρ:Ro)(r:Fl),SRo X.K H0 os0 H os σ ρ->f ρ=some r->ZW X.K H0 os0 (offs H os) D r->t D σ H
section
variable{K:FRx}{H0 H H':Hp}{os0 os:LAd}{σ σ':St}{ρ ρ':Ro}
def jo{a:AdX}(n:H a=none)(s:Same H H'):Same (offs H os) (offs H' (a::os)):=λb o z=>by
 by_cases hb:b∈os
 ·rw[xN hb] at z;cases z
 ·rw[zw hb] at z;rw[zw]
  ·exact s b o z
  ·intro w;rcases qx.mp w with w|w
   ·rw[w,n] at z;cases z
   ·exact hb w
def SRo.same(h:SRo K H0 os0 H os σ ρ)(e:Same H H'):SRo K H0 os0 H' os σ ρ:=⟨h.rel.same e,h.sm.trans e,h.sub,h.new,h.al0,h.own,h.ap⟩
def vt{ρ:Ro}{i j:Nat}{d:PdX}{c:Sl}(q:(ρ.set i (.pu d))[j]?=some c)(m:isM c=true):i≠j/\ρ[j]?=some c:=by
 rw[gC] at q;by_cases hj:i=j
 ·subst hj;rw[qj rfl] at q;by_cases hl:i<ρ.length
  ·rw[qj hl] at q;cases q;cases m
  ·rw[qo hl] at q;cases q
 ·rw[qo hj] at q;exact⟨hj,q⟩
def SRo.set(h:SRo K H0 os0 H os σ ρ){i:Nat}{v:V}{d:PdX}(r:Rep K (offs H os) v d):SRo K H0 os0 H os (σ.set i (some v)) (ρ.set i (.pu d)) where
 rel:=h.rel.set r
 sm:=h.sm
 sub:=h.sub
 new:=h.new
 al0:=h.al0
 own:=λj c q m a e=>by
  have⟨hj,q⟩:=vt q m;rw[qH hj] at e;exact h.own j c q m a e
 ap:=λj k c c' hjk q1 q2 m1 m2 a e1 e2=>by
  have⟨h1,q1⟩:=vt q1 m1;have⟨h2,q2⟩:=vt q2 m2;rw[qH h1] at e1;rw[qH h2] at e2;exact h.ap j k c c' hjk q1 q2 m1 m2 a e1 e2
def SRo.sets{is:LNt}(s:Sets K (offs H os) is σ ρ σ' ρ')(h:SRo K H0 os0 H os σ ρ):SRo K H0 os0 H os σ' ρ':=by
 induction s with
 |nil=>exact h
 |set r _ ih=>exact ih (h.set r)
def ym{ρ:Ro}{i j:Nat}{d c:Sl}(q:(ρ.set i d)[j]?=some c):(i=j/\i<ρ.length/\d=c)\/(i≠j/\ρ[j]?=some c):=by
 rw[gC] at q;by_cases hj:i=j
 ·subst hj;rw[qj rfl] at q;by_cases hl:i<ρ.length
  ·rw[qj hl] at q;cases q;exact .inl ⟨rfl,hl,rfl⟩
  ·rw[qo hl] at q;cases q
 ·rw[qo hj] at q;exact .inr ⟨hj,q⟩
def ZR{ρ:Ro}{i j:Nat}{d:Sl}{c:PdX}(m:isM d=true)(q:(ρ.set i d)[j]?=some (.pu c)):i≠j/\ρ[j]?=some (.pu c):=by
 rcases ym q with⟨rfl,hl,rfl⟩|⟨hj,q⟩
 ·cases m
 ·exact⟨hj,q⟩
def SRo.setM(h:SRo K H0 os0 H os σ ρ){i:Nat}{a:AdX}{o:HO}{d:Sl}(md:isM d=true)(n:H a=none)(s:Same H H')(hx:H' a=some o)(r:COk K (offs H' (a::os)) o d):SRo K H0 os0 H' (a::os) (σ.set i (some (.ref a))) (ρ.set i d):=by
 have na:a∉os:=h.rel.al.new n;have so:Same (offs H os) (offs H' (a::os)):=jo n s
 have n0:H0 a=none:=h.sm.free n;refine⟨⟨λj c q=>?_,λj c q m=>?_,λb hb=>?_,?_⟩,h.sm.trans s,λb hb=>qA _ (h.sub b hb),λb hb=>?_,h.al0,λj c q m b e=>?_,λj k c c' hjk q1 q2 m1 m2 b e1 e2=>?_⟩
 ·have⟨hj,q⟩:=ZR md q;have⟨v,h1,h2⟩:=h.rel.pu j c q;exact⟨v,by rw[qH hj];exact h1,h2.same so⟩
 ·rcases ym q with⟨rfl,hl,rfl⟩|⟨hj,q⟩
  ·exact⟨a,o,by rw[kG (by rw[h.rel.len];exact hl)],ka,hx,r⟩
  ·have⟨b,o',h1,h2,h3,h4⟩:=h.rel.mu j c q m;exact⟨b,o',by rw[qH hj];exact h1,qA _ h2,s _ _ h3,h4.same so⟩
 ·rcases qx.mp hb with z|z
  ·subst z;exact⟨_,hx⟩
  ·have⟨o,e⟩:=h.rel.al b z;exact⟨o,s _ _ e⟩
 ·rw[k7,k7];exact h.rel.len
 ·rcases qx.mp hb with z|z
  ·subst z;exact .inr n0
  ·exact h.new b z
 ·rcases ym q with⟨rfl,hl,rfl⟩|⟨hj,q⟩
  ·rw[kG (by rw[h.rel.len];exact hl)] at e;cases e;exact n0
  ·rw[qH hj] at e;exact h.own j c q m b e
 ·rcases ym q1 with⟨rfl,hl,rfl⟩|⟨hj,q1⟩
  ·rw[kG (by rw[h.rel.len];exact hl)] at e1;cases e1;rcases ym q2 with⟨z,_,_⟩|⟨hk,q2⟩
   ·exact hjk z
   ·rw[qH hk] at e2;have⟨b,o',h1,h2,h3,h4⟩:=h.rel.mu k c' q2 m2;rw[e2] at h1;cases h1;exact na h2
  ·rw[qH hj] at e1;rcases ym q2 with⟨z,hl,_⟩|⟨hk,q2⟩
   ·subst z;rw[kG (by rw[h.rel.len];exact hl)] at e2;cases e2;have⟨b,o',h1,h2,h3,h4⟩:=h.rel.mu j c q1 m1;rw[e1] at h1;cases h1;exact na h2
   ·rw[qH hk] at e2;exact h.ap j k c c' hjk q1 q2 m1 m2 b e1 e2
def SRo.Yq(h:SRo K H0 os0 H os σ ρ){i:Nat}{a:AdX}{xs:List V}{ds:LPd}(n:H a=none)(s:Same H H')(hx:H' a=some (.lst xs))(r:Reps K (offs H' (a::os)) xs ds):SRo K H0 os0 H' (a::os) (σ.set i (some (.ref a))) (ρ.set i (.ow ds)):=h.setM (d:=.ow ds) rfl n s hx r
def SRo.znV(h:SRo K H0 os0 H os σ ρ){i:Nat}{a:AdX}{o':HO}{d d':Sl}(md:isM d=true)(md':isM d'=true)(q:ρ[i]?=some d)(e:σ[i]?=some (some (.ref a)))(r:COk K (offs H os) o' d'):SRo K H0 os0 (upd H a o') os σ (ρ.set i d'):=by
 have⟨a',o,e',ha,hx,rx⟩:=h.rel.mu i d q md;rw[e] at e';cases e';have n0:=h.own i d q md a e;have hi:i<ρ.length:=(qg.mp q).1
 have eo:offs (upd H a o') os=offs H os:=yL ha;refine⟨⟨λj c q=>?_,λj c q' m=>?_,λb hb=>?_,?_⟩,λb o z=>?_,h.sub,h.new,h.al0,λj c q' m b z=>?_,λj k c c' hjk q1 q2 m1 m2 b z1 z2=>?_⟩
 ·have⟨hj,q⟩:=ZR md' q;rw[eo];exact h.rel.pu j c q
 ·rcases ym q' with⟨rfl,hl,rfl⟩|⟨hj,q'⟩
  ·exact⟨a,o',e,ha,zH,by rw[eo];exact r⟩
  ·have⟨b,o2,h1,h2,h3,h4⟩:=h.rel.mu j c q' m;have ne:b≠a:=λz=>h.ap i j d c hj q q' md m a e (by rw[h1,z])
   exact⟨b,o2,h1,h2,by rw[zV ne];exact h3,by rw[eo];exact h4⟩
 ·by_cases hb':b=a
  ·subst hb';exact⟨_,zH⟩
  ·rw[zV hb'];exact h.rel.al b hb
 ·rw[k7];exact h.rel.len
 ·rw[zV (λw=>by rw[w,n0] at z;cases z)];exact h.sm b o z
 ·rcases ym q' with⟨rfl,hl,rfl⟩|⟨hj,q'⟩
  ·exact h.own i d q md b z
  ·exact h.own j c q' m b z
 ·rcases ym q1 with⟨rfl,hl,rfl⟩|⟨hj,q1⟩
  ·rcases ym q2 with⟨z,_,_⟩|⟨hk,q2⟩
   ·exact hjk z
   ·exact h.ap i k d c' hjk q q2 md m2 b z1 z2
  ·rcases ym q2 with⟨z,hl,_⟩|⟨hk,q2⟩
   ·subst z;exact h.ap j i c d hjk q1 q m1 md b z1 z2
   ·exact h.ap j k c c' hjk q1 q2 m1 m2 b z1 z2
def SRo.chg(h:SRo K H0 os0 H os σ ρ){i:Nat}{a:AdX}{ys:List V}{ds es:LPd}(q:ρ[i]?=some (.ow ds))(e:σ[i]?=some (some (.ref a)))(r:Reps K (offs H os) ys es):SRo K H0 os0 (upd H a (.lst ys)) os σ (ρ.set i (.ow es)):=h.znV (d:=.ow ds) (d':=.ow es) rfl rfl q e r
def frz(i:Nat)(ρ:Ro):Ro:=match ρ[i]? with |some (.ow ds)=>ρ.set i (.pu (.list ds))|_=>ρ
def SRo.frz(h:SRo K H0 os0 H os σ ρ)(i:Nat):∃os',SRo K H0 os0 H os' σ (Fu.frz i ρ)/\Same (offs H os) (offs H os'):=by
 unfold Fu.frz;split
 ·rename_i ds q;have⟨a,xs,e,ha,hx,r⟩:=h.rel.ow i ds q;have n0:=h.own i _ q rfl a e;have sub:∀b∈os.filter (λc=>c≠a),b∈os:=λb hb=>(ku.mp hb).1
  have so:Same (offs H os) (offs H (os.filter λc=>c≠a)):=xh sub;have hi:i<ρ.length:=(qg.mp q).1
  have an:a∉os.filter (λc=>c≠a):=λz=>by simpa using (ku.mp z).2
  refine⟨os.filter λc=>c≠a,⟨⟨λj c q'=>?_,λj c q' m=>?_,λb hb=>h.rel.al b (sub b hb),?_⟩,h.sm,λb hb=>?_,λb hb=>h.new b (sub b hb),h.al0,λj c q' m b z=>?_,λj k c c' hjk q1 q2 m1 m2 b z1 z2=>?_⟩,so⟩
  ·rw[gC] at q';by_cases hj:i=j
   ·subst hj;rw[qj rfl,qj hi] at q';cases q';exact⟨.ref a,e,.lst (SqL.of (by rw[zw an];exact hx)) (r.same so)⟩
   ·rw[qo hj] at q';have⟨v,h1,h2⟩:=h.rel.pu j c q';exact⟨v,h1,h2.same so⟩
  ·have⟨hj,q'⟩:=vt q' m;have⟨b,o2,h1,h2,h3,h4⟩:=h.rel.mu j c q' m;have ne:b≠a:=λz=>h.ap i j _ c hj q q' rfl m a e (by rw[h1,z])
   exact⟨b,o2,h1,ku.mpr ⟨h2,by simpa using ne⟩,h3,h4.same so⟩
  ·rw[k7];exact h.rel.len
  ·refine ku.mpr ⟨h.sub b hb,?_⟩
   have:b≠a:=λz=>by
    have⟨o,w⟩:=h.al0 b hb;rw[z,n0] at w;cases w
   simpa using this
  ·have⟨hj,q'⟩:=vt q' m;exact h.own j c q' m b z
  ·have⟨h1,q1⟩:=vt q1 m1;have⟨h2,q2⟩:=vt q2 m2;exact h.ap j k c c' hjk q1 q2 m1 m2 b z1 z2
 ·exact⟨os,h,Same.refl _⟩
end
section
variable{X:Cx}{st:Stmt}{rest:List Stmt}{f g:RFx}{e:Expr}{pos:Pos}
def sq(f g:RFx):RFx:=λρ=>match f ρ with |some (.nx ρ')=>g ρ'|r=>r
def s0:RFx:=λρ=>some (.nx ρ)
def xv:FSs X [] s0:=⟨_,zcj,λ_ _ _ _ _ _ _ _ R q k=>by cases q;exact k _ _ _ R (Same.refl _)⟩
def zl(h:FS X st f):FSs X [st] f:=by
 have⟨t,p,q⟩:=h;exact⟨t,zb5 p,q⟩
def zi(h:FS X st f)(h2:FSs X rest g):FSs X (st::rest) (sq f g):=by
 have⟨t,p,q⟩:=h;have⟨t2,p2,q2⟩:=h2;refine⟨_,v9 p p2,λH0 os0 D σ H os ρ r R e k=>?_⟩;unfold sq at e;split at e
 ·rename_i ρ' e1;exact q H0 os0 { D with nx:=t2 D } σ H os ρ _ R e1 λσ' H' os' R' z=>q2 H0 os0 D σ' H' os' ρ' r R' e (k.mono z)
 ·cases r with
  |nx ρ'=>rename_i hn;exact absurd e (hn ρ')
  |rt d=>exact q H0 os0 { D with nx:=t2 D } σ H os ρ _ R e k
  |rl d=>exact q H0 os0 { D with nx:=t2 D } σ H os ρ _ R e k
def FS.frz(i:Nat)(h:FS X st f):FS X st (λρ=>f (frz i ρ)):=by
 have⟨t,p,q⟩:=h;refine⟨t,p,λH0 os0 D σ H os ρ r R e k=>?_⟩;have⟨os',R',z⟩:=R.frz i;exact q H0 os0 D σ H os' _ r R' e (k.mono z)
def ziP:FS X st (λ_=>none):=⟨_,ziz,λ_ _ _ _ _ _ _ _ _ q _=>by cases q⟩
def exS(f:RPx):RFx:=λρ=>(f ρ).bind λ_=>some (.nx ρ)
def zja{f:RPx}(h:FE X e f)(hs:swapsWith e none pos.line X.env=pure false:=by rfl):FS X (.Expr e pos) (exS f):=by
 have⟨t,p,q⟩:=h;refine⟨_,uO p hs,λH0 os0 D σ H os ρ r R e k=>?_⟩;have⟨d,e1,e2⟩:=bind_some e;cases e2;exact q σ H os ρ d _ R.rel e1 λv H' s _=>k _ _ _ (R.same s) (zm s os)
def retS(f:RPx):RFx:=λρ=>(f ρ).bind λd=>some (.rt d)
def zO{f:RPx}(h:FE X e f):FS X (.Return (some e) pos) (retS f):=by
 have⟨t,p,q⟩:=h;refine⟨_,Vc p,λH0 os0 D σ H os ρ r R e k=>?_⟩;have⟨d,e1,e2⟩:=bind_some e;cases e2;exact q σ H os ρ d _ R.rel e1 λv H' s rv=>k v H' (R.sm.trans s) (rv.same (xh R.sub))
def Uh(f:RLx):RFx:=λρ=>(f ρ).bind λd=>some (.rl d)
def J8{f:RLx}(h:FL X e f):FS X (.Return (some e) pos) (Uh f):=by
 have⟨t,p,q⟩:=h;refine⟨_,Vc p,λH0 os0 D σ H os ρ r R e k=>?_⟩;have⟨d,e1,e2⟩:=bind_some e;cases e2;refine q σ H os ρ d _ R.rel e1 λa xs H' n s hx rv=>k a xs H' (R.sm.free n) (R.sm.trans s) hx (rv.same (xh λb hb=>?_))
 rcases qx.mp hb with z|z
 ·exact z▸ka
 ·exact qA _ (R.sub b z)
def YI(i:Nat){x:Str}{p:Pos}(hN:X.N[i]?=some x:=by rfl)(hv:Vis X.env.scope x:=by trivial)(hd:NDx x:=by decide)(hcd:NCx x:=by decide):FS X (.Return (some (.Name x p)) pos) (Uh (gk i)):=by
 refine⟨_,Vc (yv hN hv hd hcd),λH0 os0 D σ H os ρ r R e k=>?_⟩;have⟨ds,e1,e2⟩:=bind_some e;cases e2;have q:=wJ e1;have⟨a,xs,e,ha,hx,r⟩:=R.rel.ow i ds q
 refine⟨_,e,k a xs H (R.own i _ q rfl a e) R.sm hx (r.same (xh λb hb=>?_))⟩;rcases qx.mp hb with z|z
 ·exact z▸ha
 ·exact R.sub b z
def zX(i:Nat)(f:RPx):RFx:=λρ=>(f ρ).bind λd=>some (.nx (ρ.set i (.pu d)))
def zJ(i:Nat){x:Str}{pos':Pos}{f:RPx}(hN:X.N.Nodup)(he:FE X e f)(hi:X.N[i]?=some x:=by rfl)(hx:Loc X.env.scope x:=by trivial)(hs:swapsWith e (some (.Name x pos')) pos.line X.env=pure false:=by rfl)(hf:FNx X x:=by trivial):FS X (.Assign [.Name x pos'] e pos) (zX i f):=by
 have⟨t,p,q⟩:=he;refine⟨_,wW hN hi hx p hs hf,λH0 os0 D σ H os ρ r R e k=>?_⟩;have⟨d,e1,e2⟩:=bind_some e;cases e2;exact q σ H os ρ d _ R.rel e1 λv H' s rv=>k _ _ _ ((R.same s).set rv) (zm s os)
def jc(i:Nat)(f:RLx):RFx:=λρ=>(f ρ).bind λd=>some (.nx (ρ.set i (.ow d)))
def xk(i:Nat){x:Str}{pos':Pos}{f:RLx}(hN:X.N.Nodup)(he:FL X e f)(hi:X.N[i]?=some x:=by rfl)(hx:Loc X.env.scope x:=by trivial)(hs:swapsWith e (some (.Name x pos')) pos.line X.env=pure false:=by rfl)(hf:FNx X x:=by trivial):FS X (.Assign [.Name x pos'] e pos) (jc i f):=by
 have⟨t,p,q⟩:=he;refine⟨_,wW hN hi hx p hs hf,λH0 os0 D σ H os ρ r R e k=>?_⟩;have⟨d,e1,e2⟩:=bind_some e;cases e2;exact q σ H os ρ d _ R.rel e1 λa xs H' n s hx rv=>k _ _ _ (R.Yq n s hx rv) (jo n s)
def ifS(c:Ro->Option Bool)(f g:RFx):RFx:=λρ=>(c ρ).bind λb=>if b then f ρ else g ρ
def j6{c:Expr}{a b:List Stmt}{fc:Ro->Option Bool}(hc:FT X c fc)(ha:FSs X a f)(hb:FSs X b g):FS X (.If c a b pos) (ifS fc f g):=by
 have⟨tc,pc,qc⟩:=hc;have⟨ta,pa,qa⟩:=ha;have⟨tb,pb,qb⟩:=hb;refine⟨_,zhS pc pa pb,λH0 os0 D σ H os ρ r R e k=>?_⟩;have⟨b,e1,e2⟩:=bind_some e;refine qc σ H os ρ b _ R.rel e1 λH' s=>?_
 cases b with
 |true=>rw[qj rfl] at e2 ⊢;exact qa H0 os0 D σ H' os ρ r (R.same s) e2 (k.mono (zm s os))
 |false=>rw[qo qL] at e2 ⊢;exact qb H0 os0 D σ H' os ρ r (R.same s) e2 (k.mono (zm s os))
def wj(c:Ro->Option Bool)(b:RFx):Nat->Ro->Option Fl
 |0,_=>none
 |n+1,ρ=>(c ρ).bind λt=>if t then (match b ρ with |some (.nx ρ')=>wj c b n ρ'|r=>r) else some (.nx ρ)
def whS(m:Ro->Nat)(c:Ro->Option Bool)(b:RFx):RFx:=λρ=>wj c b (m ρ) ρ
def zdh(m:Ro->Nat){c:Expr}{body:List Stmt}{fc:Ro->Option Bool}{fb:RFx}(hp:PassesOwn (model X.prog X.w) X.A X.env X.xe)(hc:FT X c fc)(hb:FSs X body fb):FS X (.While c body [] pos) (whS m fc fb):=by
 have⟨tc,pc,qc⟩:=hc;have⟨tb,pb,qb⟩:=hb;refine⟨_,zcZ hp pc pb,λH0 os0 D σ H os ρ r R e k=>?_⟩;refine⟨λn σ' H'=>∃os' ρ',SRo X.K H0 os0 H' os' σ' ρ'/\Same (offs H os) (offs H' os')/\wj fc fb n ρ'=some r,⟨m ρ,os,ρ,R,Same.refl _,e⟩,?_⟩;rintro n σ' H' ⟨os',ρ',R',z',e'⟩;cases n with
 |zero=>cases e'
 |succ n=>
  have⟨b,e1,e2⟩:=bind_some e';refine qc σ' H' os' ρ' b _ R'.rel e1 λH2 s=>?_
  cases b with
  |false=>rw[qo qL] at e2 ⊢;cases e2;exact k _ _ _ (R'.same s) (z'.trans (zm s os'))
  |true=>
   rw[qj rfl] at e2 ⊢;refine⟨λσ2 H2=>∃os' ρ',SRo X.K H0 os0 H2 os' σ2 ρ'/\Same (offs H os) (offs H2 os')/\wj fc fb n ρ'=some r,λσ2 H2 h=>⟨n,kR n,h⟩,?_⟩;split at e2
   ·rename_i ρ2 e3;exact qb H0 os0 _ σ' H2 os' ρ' _ (R'.same s) e3 λσ3 H3 os3 R3 z3=>⟨os3,ρ2,R3,(z'.trans (zm s os')).trans z3,e2⟩
   ·cases r with
    |nx ρ2=>rename_i hn;exact absurd e2 (hn ρ2)
    |rt d=>exact qb H0 os0 _ σ' H2 os' ρ' _ (R'.same s) e2 k
    |rl d=>exact qb H0 os0 _ σ' H2 os' ρ' _ (R'.same s) e2 k
def Zd(bd:PyData->Ro->Option Ro)(b:RFx):List PyData->Ro->Option Fl
 |[],ρ=>some (.nx ρ)
 |d::ds,ρ=>(bd d ρ).bind λρ1=>match b ρ1 with |some (.nx ρ')=>Zd bd b ds ρ'|r=>r
def jS(it:RLx)(bd:PyData->Ro->Option Ro)(b:RFx):RFx:=λρ=>(it ρ).bind λds=>Zd bd b ds ρ
def jg{tg iter:Expr}{body:List Stmt}{fi:RLx}{is:LNt}{bd:PyData->Ro->Option Ro}{fb:RFx}(hp:PassesOwn (model X.prog X.w) X.A X.env X.xe)(hc:X.calm=true)(hi:FI X tg iter fi)(hg:FG X tg is bd)(hb:FSs X body fb)(hs:FSx X iter:=by exact λ_=>rfl):FS X (.For tg iter body [] pos) (jS fi bd fb):=by
 have⟨wi,pi,qi⟩:=hi;have⟨tb,pb,qb⟩:=hb;refine⟨_,zd7 hp hc pi hg pb hs,λH0 os0 D σ H os ρ r R e k=>?_⟩;have⟨ds,e1,e2⟩:=bind_some e;refine qi σ H os ρ ds _ R.rel e1 λJ H1 s1 W=>?_
 refine⟨λi m σ' H'=>m=ds.length - i/\i<=ds.length/\∃os' ρ',SRo X.K H0 os0 H' os' σ' ρ'/\Same (offs H1 os) (offs H' os')/\Zd bd fb (ds.drop i) ρ'=some r,
  ⟨ds.length,rfl,kE _,os,ρ,R.same s1,Same.refl _,e2⟩,?_⟩
 rintro i m σ' H' ⟨rfl,hi,os',ρ',R',so,e'⟩;obtain⟨w1,w2⟩:=W H' os' R'.rel.al (so.trans (xW H' os')) so;by_cases hlt:i<ds.length
 ·obtain⟨d,hd⟩:∃d,ds[i]?=some d:=⟨_,qk hlt⟩;have⟨g1,g2⟩:=w1 i d hd;have ed:ds.drop i=d::ds.drop (i+1):=by
   rw[gN hlt];rw[qk hlt] at hd;cases hd;rfl
  rw[ed] at e';have⟨ρ1,e3,e4⟩:=bind_some e';refine .inr ⟨g1,λσ2 H2=>i+1<=ds.length/\∃os' ρ',SRo X.K H0 os0 H2 os' σ2 ρ'/\Same (offs H1 os) (offs H2 os')/\Zd bd fb (ds.drop (i+1)) ρ'=some r,?_,?_⟩
  ·rintro σ2 H2 ⟨h1,h2⟩;exact⟨ds.length - (i+1),by omega,rfl,h1,h2⟩
  ·intro x H2 hy;have⟨s2,rx⟩:=g2 x H2 hy;refine⟨os',d,ρ',ρ1,rx,e3,λσ2 st=>?_⟩;have R2:SRo X.K H0 os0 H2 os' σ2 ρ1:=(R'.same s2).sets st;split at e4
   ·rename_i ρ2 e5;exact qb H0 os0 _ σ2 H2 os' ρ1 _ R2 e5 λσ3 H3 os3 R3 z3=>⟨hlt,os3,ρ2,R3,(so.trans (zm s2 os')).trans z3,e4⟩
   ·cases r with
    |nx ρ2=>rename_i hn;exact absurd e4 (hn ρ2)
    |rt d=>exact qb H0 os0 _ σ2 H2 os' ρ1 _ R2 e4 k
    |rl d=>exact qb H0 os0 _ σ2 H2 os' ρ1 _ R2 e4 k
 ·have e:i=ds.length:=by omega
  subst e;rw[mR] at e';cases e';exact .inl ⟨w2,k _ _ _ R' ((zm s1 os).trans so)⟩
end
section
variable{X:Cx}{e:Expr}{pos apos cpos p1:Pos}
def apS(i:Nat)(f:RPx):RFx:=λρ=>(gk i ρ).bind λds=>(f ρ).bind λd=>if ds.length<16777216 then some (.nx (ρ.set i (.ow (ds++[d])))) else none
def j8(i:Nat){x:Str}{f:RPx}(he:FE X e f)(hN:X.N[i]?=some x:=by rfl)(hv:Vis X.env.scope x:=by trivial)(hd:NDx x:=by decide)(hcd:NCx x:=by decide)(hbase:ABx X (.Name x p1) "append":=by rfl)(hfew:FWx X cpos [e]:=by rfl)(hline:(apos.endLine==cpos.line)=true:=by rfl)(hs:SEx X e []:=by rfl)(hsw:swapsWith (.Call (.Attribute (.Name x p1) "append" apos) [e] [] cpos) none pos.line X.env=pure false:=by rfl):FS X (.Expr (.Call (.Attribute (.Name x p1) "append" apos) [e] [] cpos) pos) (apS i f):=by
 have⟨t,p,q⟩:=he;refine⟨_,uO (Vk kQ nG nE uD (yv hN hv hd hcd) (yJ p xP hs) hbase hfew hline hs) hsw,λH0 os0 D σ H os ρ r R e k=>?_⟩;have⟨ds,e1,e⟩:=bind_some e;have⟨d,e2,e⟩:=bind_some e;split at e
 ·rename_i hl;cases e;have g:=wJ e1;have⟨a,xs,h1,h2,h3,h4⟩:=R.rel.ow i ds g
  refine⟨_,h1,.inl ⟨rfl,_,SqL.of h3⟩,q σ H os ρ d _ R.rel e2 λv H' s rv=>?_⟩;refine⟨a,xs,v,rfl,rfl,s _ _ h3,by rw[h4.length];exact hl,?_⟩;refine k _ _ os ((R.same s).chg g h1 ((h4.same (zm s os)).append (.cons rv .nil))) ?_;rw[yL h2];exact zm s os
 ·cases e
def exT(i:Nat)(f:RPx):RFx:=λρ=>(gk i ρ).bind λds=>match f ρ with
 |some (.tuple es)=>if ds.length+es.length<=16777216 then some (.nx (ρ.set i (.ow (ds++es)))) else none
 |_=>none
def ze1(i:Nat){x:Str}{f:RPx}(he:FB X e f)(hN:X.N[i]?=some x:=by rfl)(hv:Vis X.env.scope x:=by trivial)(hd:NDx x:=by decide)(hcd:NCx x:=by decide)(hbase:ABx X (.Name x p1) "extend":=by rfl)(hfew:FWx X cpos [e]:=by rfl)(hline:(apos.endLine==cpos.line)=true:=by rfl)(hs:SEx X e []:=by rfl)(hsw:swapsWith (.Call (.Attribute (.Name x p1) "extend" apos) [e] [] cpos) none pos.line X.env=pure false:=by rfl):FS X (.Expr (.Call (.Attribute (.Name x p1) "extend" apos) [e] [] cpos) pos) (exT i f):=by
 have⟨t,p,q⟩:=he;refine⟨_,uO (Vk kQ PySem.F.slot_list_extend PySem.F.type_list_extend zeS (yv hN hv hd hcd) (yJ p xP hs) hbase hfew hline hs) hsw,λH0 os0 D σ H os ρ r R e k=>?_⟩;have⟨ds,e1,e⟩:=bind_some e;split at e
 ·rename_i es e2;split at e
  ·rename_i hl;cases e;have g:=wJ e1;have⟨a,xs,h1,h2,h3,h4⟩:=R.rel.ow i ds g
   refine⟨_,h1,.inl ⟨rfl,_,SqL.of h3⟩,q σ H os ρ _ _ R.rel e2 λv H' s rv=>?_⟩;obtain⟨b,ys,rfl,hS,_,ry⟩:=rv.tup;refine⟨a,b,xs,ys,rfl,rfl,s _ _ h3,hS,by rw[h4.length,ry.length];exact hl,?_⟩;refine k _ _ os ((R.same s).chg g h1 ((h4.same (zm s os)).append ry)) ?_;rw[yL h2];exact zm s os
  ·cases e
 ·cases e
def siS(i:Nat)(fi f:RPx):RFx:=λρ=>(gk i ρ).bind λds=>(f ρ).bind λd=>match fi ρ with
 |some (.int k)=>(ixN ds.length k).bind λj=>some (.nx (ρ.set i (.ow (ds.set j d))))
 |_=>none
theorem YX{K:FRx}{H:Hp}{v:V}{d:PdX}(r:Rep K H v d):∀{xs:List V} {ds:LPd} (j:Nat),Reps K H xs ds->Reps K H (xs.set j v) (ds.set j d)
 |_,_,_,.nil=>.nil
 |_,_,0,.cons _ q=>.cons r q
 |_,_,j+1,.cons h q=>.cons h (YX r j q)
def YE(i:Nat){x:Str}{ie:Expr}{fi f:RPx}{tpos:Pos}(hi:FE X ie fi)(he:FE X e f)(hN:X.N[i]?=some x:=by rfl)(hv:Vis X.env.scope x:=by trivial)(hd:NDx x:=by decide)(hcd:NCx x:=by decide)(ha:∀v,assign (.Subscript (.Name x p1) ie tpos) X.env v=(do
   let ov <-holding [v] (eval (.Name x p1) X.env)
   let iv <-holding [v,ov] (eval ie X.env)
   standAt tpos
   holding [v,ov,iv] (setItem ov iv v)
   release [v,ov,iv] []):=by intro _;rfl)(hs:swapsWithSole [.Subscript (.Name x p1) ie tpos] e pos.line X.env=pure false:=by rfl)(hw:swappedStores [.Subscript (.Name x p1) ie tpos] e X.env=pure none:=by rfl)(h1:(assignEach [.Subscript (.Name x p1) ie tpos] X.env).map (·.2)=[assign (.Subscript (.Name x p1) ie tpos) X.env]:=by rfl):FS X (.Assign [.Subscript (.Name x p1) ie tpos] e pos) (siS i fi f):=by
 have⟨t,p,q⟩:=he;have⟨ti,pi,qi⟩:=hi;refine⟨_,zhy p (zhq (yv hN hv hd hcd) pi set_list ha) hs hw h1,λH0 os0 D σ H os ρ r R e k=>?_⟩;have⟨ds,e1,e⟩:=bind_some e;have⟨d,e2,e⟩:=bind_some e;split at e
 ·rename_i n e3;have⟨j,e4,e⟩:=bind_some e;cases e;have g:=wJ e1;have⟨a,xs,h1,h2,h3,h4⟩:=R.rel.ow i ds g
  refine q σ H os ρ d _ R.rel e2 λv H' s rv=>⟨_,h1,qi σ H' os ρ _ _ (R.rel.same s) e3 λu H2 s2 ru=>?_⟩
  cases ru;have s3:=s.trans s2;refine⟨a,xs,n,j,rfl,rfl,s3 _ _ h3,by rw[h4.length];exact e4,?_⟩;refine k _ _ os ((R.same s3).chg g h1 (YX (rv.same (zm s2 os)) j (h4.same (zm s3 os)))) ?_;rw[yL h2];exact zm s3 os
 ·cases e
def Ud(i:Nat){elt tg iter:Expr}{scope:Scope}{Ts:LSr}{F:LNt}{is:LNt}{fi:RLx}{b:PyData->Ro->Option Ro}{fe:RPx}{x:Str}{pos' spos:Pos}(hN:X.N.Nodup)(hc:X.calm=true)(hi:FIB X tg iter fi)(S:yc X scope)(hF:∀j∈F,∃x,X.N[j]?=some x/\scope.names.lookup x=some .free)(hg:∀cl C ex s H,FG (z9 X (Ts++F.map λj=>X.N.getD j "") scope cl C ex s H) tg is b)(he:∀cl C ex s H,FE (z9 X (Ts++F.map λj=>X.N.getD j "") scope cl C ex s H) elt fe)(his:∀i∈is,i<Ts.length:=by decide)(hi':X.N[i]?=some x:=by rfl)(hx:X.env.scope.names.lookup x=some .local:=by rfl)(hsw:swapsWith (.ListComp elt [⟨tg,iter,[],0⟩] scope pos) (some (.Name x pos')) spos.line X.env=pure true:=by rfl)(hs:FSx X iter:=by exact λ_=>rfl):FS X (.Assign [.Name x pos'] (.ListComp elt [⟨tg,iter,[],0⟩] scope pos) spos) (jc i (zR Ts.length F fi b fe)):=by
 have⟨wi,pi,qi⟩:=hi;refine⟨_,U2 (Ts:=Ts) (F:=F) (g:=gF X.K is b) (te:=tF X.K fe) hN hi' hx hc pi S hF hg (λcl C ex s H=>(he cl C ex s H).pe) hsw hs,λH0 os0 D σ H os ρ r R q k=>?_⟩;have⟨ds,e1,q⟩:=bind_some q;cases q;have⟨es,e1,q⟩:=bind_some e1;split at q
 ·rename_i hl;refine qi σ H os ρ es _ R.rel e1 λJ H' s W D hD=>?_
  exact u5 his (R.rel.same s) hl hD W q λH2 xs s2 hx r=>k _ _ _ (R.Yq (s.free hD) (s.trans s2) hx r) (jo (s.free hD) (s.trans s2))
 ·cases q
end
def fnF(n m:Nat)(b:RFx)(ds:LPd):Option PyData:=if ds.length=m then (match b (ds.map Sl.pu++List.replicate (n - m) .no) with
  |some (.rt d)=>some d
  |some (.rl es)=>some (.list es)
  |some (.nx _)=>some .none
  |none=>none) else none
def fnL(n m:Nat)(b:RFx)(ds:LPd):Option (List PyData):=if ds.length=m then (match b (ds.map Sl.pu++List.replicate (n - m) .no) with
  |some (.rl es)=>some es
  |_=>none) else none
section
variable{P:Program}{w:World}{K:FRx}{mg:Str->Option Value}{base:Heap}
def J9{N:LSr}{H:Hp}{os:LAd}{vs:List V}{ds:LPd}(al:Al H os)(r:Reps K (offs H os) vs ds)(m:Nat)(hm:ds.length=m):SRo K H os H os (start N vs) (ds.map Sl.pu++List.replicate (N.length - m) .no):=by
 have hl:=r.length;have no:∀(i:Nat)(c:Sl),(ds.map Sl.pu++List.replicate (N.length - m) .no)[i]?=some c->isM c=true->False:=λi c q m=>by
  by_cases hi:i<ds.length
  ·rw[qK (by simpa using hi),qq] at q;have⟨d,_,e2⟩:=map_some q;subst e2;cases m
  ·rw[qz (by simpa using km hi),kz] at q;split at q
   ·cases q;cases m
   ·cases q
 refine⟨⟨λi d q=>?_,λi c q m=>(no i c q m).elim,al,?_⟩,Same.refl _,λa h=>h,λa h=>.inl h,al,λi c q m=>(no i c q m).elim,λi j c c' _ q _ m=>(no i c q m).elim⟩
 ·unfold start;by_cases hi:i<ds.length
  ·rw[qK (by simpa using hi),qq] at q;have⟨c,e1,e2⟩:=map_some q;cases e2;have⟨v,e3,e4⟩:=r.getD e1;refine⟨v,?_,e4⟩;rw[qK (by rw[qe,hl];exact hi),qq,e3];rfl
  ·rw[qz (by simpa using km hi),kz] at q;split at q<;>cases q
 ·unfold start;simp[hl,hm]
def yA.mk{x:Str}{st:Stmt}{N ps:LSr}{k m:Nat}{b:RFx}(h:HasDef K mg x st)(S:zr N ps (zc st))(hb:∀(kV doc pm:Value)(an:Option Addr)(cdv ct:Value)(us:LVl),us.length=ps.length->bindArgs (W.fnOf x x (jm st) (yK st) (zc st) .none kV doc pm an cdv ct) ⟨us,[]⟩=pure (ps.zip us))(hm:ps.length=m)(hbody:∀(f:AdX)(cdv:Value)(A:Around)(outer:List Env)(s:ShX)(H:Hp)(E:XK),Room k (A.deeper (envOfC x (zc st) s.heap.objs.size f cdv))->
   FSs (Ug CX0 P w K mg base N x (zc st) f cdv A outer s H E).nox (yK st) b):yA P w K mg base (k+1) x ps (fnF N.length m b):=by
 refine Def.mk h S hb (λvs H Q E q=>?_) (λf cdv A outer s H vs Q E hr q=>?_)
 ·have⟨os,ds,r,_,hr,e,_⟩:=q;unfold fnF at e;split at e
  ·rename_i hl;rw[hr.length,hl,hm]
  ·cases e
 ·have⟨t,p,q'⟩:=hbody f cdv A outer s H E hr;have⟨os,ds,r,al,hr,e,kk⟩:=q;unfold fnF at e;split at e
  ·rename_i hl;refine⟨t,p,?_⟩;have R:=J9 (N:=N) al hr m hl;split at e
   ·rename_i d e1;cases e;exact q' H os _ _ H os _ _ R e1 λv H' s r=>kk v H' s r
   ·rename_i es e1;cases e;refine q' H os _ _ H os _ _ R e1 λa xs H' n s hx r=>kk _ H' s (.lst (SqL.of ?_) (r.same (xh λb hb=>qA _ hb)))
    rw[zw (al.new n)];exact hx
   ·rename_i ρ' e1;cases e;exact q' H os _ _ H os _ _ R e1 λσ' H' os' R' z=>kk _ H' R'.sm .non
   ·cases e
  ·cases e
def x3.mk{x:Str}{st:Stmt}{N ps:LSr}{k m:Nat}{b:RFx}(h:HasDef K mg x st)(S:zr N ps (zc st))(hb:∀(kV doc pm:Value)(an:Option Addr)(cdv ct:Value)(us:LVl),us.length=ps.length->bindArgs (W.fnOf x x (jm st) (yK st) (zc st) .none kV doc pm an cdv ct) ⟨us,[]⟩=pure (ps.zip us))(hm:ps.length=m)(hbody:∀(f:AdX)(cdv:Value)(A:Around)(outer:List Env)(s:ShX)(H:Hp)(E:XK),Room k (A.deeper (envOfC x (zc st) s.heap.objs.size f cdv))->
   FSs (Ug CX0 P w K mg base N x (zc st) f cdv A outer s H E).nox (yK st) b):x3 P w K mg base (k+1) x ps (fnL N.length m b):=by
 refine Def.mk h S hb (λvs H Q E q=>?_) (λf cdv A outer s H vs Q E hr q=>?_)
 ·have⟨os,ds,r,_,hr,e,_⟩:=q;unfold fnL at e;split at e
  ·rename_i hl;rw[hr.length,hl,hm]
  ·cases e
 ·have⟨t,p,q'⟩:=hbody f cdv A outer s H E hr;have⟨os,ds,r,al,hr,e,kk⟩:=q;unfold fnL at e;split at e
  ·rename_i hl;refine⟨t,p,?_⟩;have R:=J9 (N:=N) al hr m hl;split at e
   ·rename_i es e1;cases e;exact q' H os _ _ H os _ _ R e1 λa xs H' n s hx r=>kk a xs H' n s hx r
   ·cases e
  ·cases e
end
end L2.Fu
namespace L2.Fu
open PySem PySem.Spec PyProof.Rows
abbrev ltI:PyData->PyData->Option PyData:=ze2 λi j=>decide (i<j)
abbrev gtI:PyData->PyData->Option PyData:=ze2 λi j=>decide (j<i)
abbrev frS(i:Nat)(f:RFx):RFx:=λρ=>f (frz i ρ)
section
variable{X:Cx}{a b e:Expr}{f g:RPx}{pos p1 apos cpos:Pos}
def zu(ha:FB X a f)(hb:FB X b g)(hs:zbR b:=by exact λ_ _=>rfl):FE X (.Subscript a b pos) (op2 ixD f g):=by
 have⟨ta,pa,qa⟩:=ha;have⟨tb,pb,qb⟩:=hb;refine⟨_,zk4 zft pa pb hs,λσ H os ρ c Q R q k=>?_⟩;have⟨d,e,e1,e2,e3⟩:=V9 q;refine two qa qb R e1 e2 λx y H' s r1 r2=>zkT x y H' os d e c Q (R.al.same s) r1 r2 e3 λv H2 s2=>k v H2 (s.trans s2)
end
section
variable{P:Program}{w:World}{K:FRx}{mg:Str->Option Value}{base:Heap}
def FnF.mk{x:Str}{st:Stmt}{f:AdX}{fd:FuncData}{N ps:LSr}{k m:Nat}{b:RFx}(F:Fun K x x st f fd)(S:zr N ps (zc st))(hm:ps.length=m)(hbody:∀(cdv:Value)(A:Around)(outer:List Env)(s:ShX)(H:Hp)(E:XK),Room k (A.deeper (envOfC x (zc st) s.heap.objs.size f cdv))->
   FSs (Ug CX0 P w K mg base N x (zc st) f cdv A outer s H E).nox (yK st) b):v7 P w K mg base CX0 (k+1) f fd ps (spF K (fnF N.length m b)):=by
 refine F.ok S (λvs H Q E q=>?_) (λcdv A outer s H vs Q E hr q=>?_)
 ·have⟨os,ds,r,_,hr,e,_⟩:=q;unfold fnF at e;split at e
  ·rename_i hl;rw[hr.length,hl,hm]
  ·cases e
 ·have⟨t,p,q'⟩:=hbody cdv A outer s H E hr;have⟨os,ds,r,al,hr,e,kk⟩:=q;unfold fnF at e;split at e
  ·rename_i hl;refine⟨t,p,?_⟩;have R:=J9 (N:=N) al hr m hl;split at e
   ·rename_i d e1;cases e;exact q' H os _ _ H os _ _ R e1 λv H' s r=>kk v H' s r
   ·rename_i es e1;cases e;refine q' H os _ _ H os _ _ R e1 λa xs H' n s hx r=>kk _ H' s (.lst (SqL.of ?_) (r.same (xh λb hb=>qA _ hb)))
    rw[zw (al.new n)];exact hx
   ·rename_i ρ' e1;cases e;exact q' H os _ _ H os _ _ R e1 λσ' H' os' R' z=>kk _ H' R'.sm .non
   ·cases e
  ·cases e
def zfG(K:FRx):Sp:=λvs H Q _=>∃(a:AdX)(ns:List Int),vs=[.ref a]/\SqL K H a (ns.map V.int)/\ns.length<=63/\∀H',Q (.bl true) H'
def zkb{CX:CXT}{k:Nat}{f:AdX}{fd:FuncData}{ps:LSr}{F:LPx}(h:∀ns:List Int,ns.length<=63->F [.list (ns.map PyData.int)]=some (.bool true))(o:v7 P w K mg base CX k f fd ps (spF K F)):v7 P w K mg base CX k f fd ps (zfG K):=o.imp λvs H Q E q=>by
 obtain⟨a,ns,rfl,hS,hl,k⟩:=q;have e0:offs H []=H:=by funext b;exact zw (by simp)
 refine⟨[],[.list (ns.map PyData.int)],.bool true,Al.nil _,.cons (.lst (by rw[e0];exact hS) (Reps.ints ns)) .nil,h ns hl,λv H' s r=>?_⟩;cases r;exact k H'
def zbU{x:Str}{ga:AdX}{gd:Option Addr}{a b:Int}{t u:Tok}{n:Nat}{sl:Array (Option Value)}(h:mg x=some (.ref ga))(l:K.lookup ga=some ⟨.type "tuple",gd,.seq #[.int a t,.int b u] n,sl⟩):GC K mg x (.tuple [.int a,.int b]):=⟨.ref ga,_,h,rfl,λH=>.tup (xs:=[.int a,.int b]) (.inr ⟨_,#[.int a t,.int b u],n,l,rfl,rfl,(by show 2<=sizeLine;decide),.cons ⟨t,rfl⟩ (.cons ⟨u,rfl⟩ .nil)⟩) (.cons (.int a) (.cons (.int b) .nil))⟩
end
def WJ:fillsNumberSlot (.type "tuple") "mul"=pure false:=PySem.fillsNumberSlot_seq (id:="tuple.__mul__") (r:=some (.builtin "tuple.__rmul__")) mC.lookup (by decide+kernel) bu.lookup (by decide+kernel)
def zbs:seqRepeat? (.type "tuple")=pure (some (.builtin "tuple.__mul__")):=by
 unfold seqRepeat?;rw[PySem.seqSlot_of (T:="tuple") (name:="__mul__") (id:="tuple.__mul__") mC.lookup (by decide+kernel),PySem.seqSlot_of (T:="tuple") (name:="__rmul__") (id:="tuple.__rmul__") bu.lookup (by decide+kernel)];rfl
def Z1(a:Int)(t:Tok)(l:AdX)(items:Array Value)(n:Nat)(dd:Option Addr)(sl:Array (Option Value)):Meets (Builtin.«int.__rmul__» ⟨[.int a t,.ref l],[]⟩) (λ_ R s=>s.heap.get? l=some { cls:=.type "tuple",dict:=dd,data:=.seq items n,slots:=sl }/\R (.ok (.ret Value.notImplemented)) s):=.of_wp λprog w A R s h=>by have⟨hp,g,d,tk,os⟩:=s;obtain⟨hl,h⟩:=h;wp_walk;exact⟨_,rfl,h⟩
def zdg(l:AdX)(items:Array Value)(n:Nat)(dd:Option Addr)(sl:Array (Option Value))(u:Tok):Meets (Builtin.«tuple.__mul__» ⟨[.ref l,.int 1 u],[]⟩) (λ_ R s=>s.heap.get? l=some { cls:=.type "tuple",dict:=dd,data:=.seq items n,slots:=sl }/\R (.ok (.ret (.ref l))) s):=.of_wp λprog w A R s h=>by
  have⟨hp,g,d,tk,os⟩:=s;obtain⟨hl,h⟩:=h;have f1:=nk;have hc:(items.isEmpty || (1:Int)==1)=true:=by simp
  wp_walk using k5 hl
  exact⟨_,rfl,h⟩
def zcz(l:AdX)(items:Array Value)(n:Nat)(dd:Option Addr)(sl:Array (Option Value))(x:Int)(u:Tok)(h0:x<=0)(h1:-(2 ^ 63)<=x)(hi:items.isEmpty=false):Meets (Builtin.«tuple.__mul__» ⟨[.ref l,.int x u],[]⟩) (λ_ R s=>s.heap.get? l=some { cls:=.type "tuple",dict:=dd,data:=.seq items n,slots:=sl }/\R (.ok (.ret (.ref s.heap.objs.size))) { s with heap:=s.heap.push { cls:=Value.type "tuple",data:=Data.seq #[] },toks:=s.toks }):=.of_wp λprog w A R s h=>by
  have⟨hp,g,d,tk,os⟩:=s;obtain⟨hl,h⟩:=h;have f1:=nk;have hc:¬((items.isEmpty || x==1)=true):=by rw[hi];simp;omega
  have hc1:¬((decide (x< -(2 ^ 63)) || decide (x>=2 ^ 63))=true):=by simp;omega
  have hc2:((decide (x<=0) || items.isEmpty)=true):=by simp;omega
  wp_walk using k5 hl
  rw[qo hc1];wp_walk using k5 hl;rw[qo hc];wp_walk using k5 hl;exact⟨_,rfl,h⟩
def zcp(l:AdX)(items:Array Value)(n:Nat)(dd:Option Addr)(sl:Array (Option Value))(x:Int)(u:Tok)(h0:1<x)(h1:x<2 ^ 63)(hi:items.isEmpty=false)(hz:items.size*x.toNat<=sizeLine):Meets (Builtin.«tuple.__mul__» ⟨[.ref l,.int x u],[]⟩) (λ_ R s=>s.heap.get? l=some { cls:=.type "tuple",dict:=dd,data:=.seq items n,slots:=sl }/\R (.ok (.ret (.ref s.heap.objs.size))) { s with heap:=s.heap.push { cls:=Value.type "tuple",data:=Data.seq (List.foldl (λx1 x2=>x1++x2) #[] (List.replicate x.toNat items)) },toks:=s.toks }):=.of_wp λprog w A R s h=>by
  have⟨hp,g,d,tk,os⟩:=s;obtain⟨hl,h⟩:=h;have f1:=nk;have hz2:((items.size*x.toNat:Nat):Int)<=16777216:=by
   have:(sizeLine:Nat)=16777216:=rfl;omega
  have hx:(items.size:Int)*x=((items.size*x.toNat:Nat):Int):=by
   rw[nj,Int.toNat_of_nonneg (by omega)]
  have hc:¬((items.isEmpty || x==1)=true):=by rw[hi];simp;omega
  have hc1:¬((decide (x< -(2 ^ 63)) || decide (x>=2 ^ 63))=true):=by simp;omega
  have hc2:¬((decide (x<=0) || items.isEmpty)=true):=by rw[hi];simp;omega
  have hc3:¬((items.size:Int)*x>(2 ^ 63 - 1) / 8):=by rw[hx];omega
  have hc4:¬(Builtin.Tuple.tupleTooMany ((items.size:Int)*x)=true):=by
   rw[hx];unfold Builtin.Tuple.tupleTooMany
   have:(sizeLine:Int)=16777216:=rfl;rw[pF];omega
  have hz':(List.foldl (λx1 x2=>x1++x2) #[] (List.replicate x.toNat items)).size<=sizeLine:=by
   rw[AutoListH.size_joined];simp only [Array.size_empty];rw[mj] at hz;omega
  wp_walk using k5 hl
  rw[qo hc1];wp_walk using k5 hl;rw[qo hc];wp_walk using k5 hl;rw[qo hc2];wp_walk using k5 hl;rw[qo hc3];wp_walk using k5 hl;rw[qo hc4];wp_walk using k5 hl;exact⟨_,rfl,h⟩
def zk0(K:FRx):R2:=λx y H Q=>∃a k xs,x=.ref a/\y=.int k/\SqT K H a xs/\xs≠[]/\-(2 ^ 63)<=k/\k<2 ^ 63/\xs.length*k.toNat<=sizeLine/\
 (k=1->Q (.ref a) H)/\(k≠1->∀p,H p=none->Q (.ref p) (upd H p (.tup (List.replicate k.toNat xs).flatten)))
def zjv{X:Cx}:OpR X (binaryOp .Mult) (zk0 X.K):=by
 intro pins s σ H x y v u Q I rx ry h;obtain⟨a,k,xs,rfl,rfl,hx,hne,h1,h2,hz,q1,q2⟩:=h;cases (show v=Value.ref a from rx);obtain⟨t,rfl⟩:=ry;have⟨its,r,⟨⟨cls,dd,data,sl⟩,ho,hc,n,hd⟩,hz2⟩:=I.tuple hx;simp only at hc hd;subst hc hd;have hl:=r.length;have hie:its.toArray.isEmpty=false:=by
  cases its with
  |nil=>cases r;exact absurd rfl hne
  |cons _ _=>rfl
 have hzz:its.toArray.size*k.toNat<=sizeLine:=by rw[qF,<-hl];exact hz
 have hf:∀m:Nat,List.foldl (λx1 x2=>x1++x2) #[] (List.replicate m its.toArray)=(List.replicate m its).flatten.toArray:=λm=>by
  have:=foldl_rep its m [];rw[pX] at this;exact this
 refine wpAny_binaryOp_repeat_ref (T:="tuple") (U:="int") (by decide) ⟨_,ho,rfl⟩ (λs'=>pV s' k t) WJ F.fills_int_mul pE zbs F.slot_int_index.lookup
  (mf pE (pV s k t) F.entry_int_rmul (F.args_int_rmul_2 _ _) (Z1 k t a its.toArray n dd sl) ⟨ho,rfl,⟨_,ho,rfl⟩,?_⟩)
 by_cases hk1:k=1
 ·subst hk1;exact mf mC ⟨_,ho,rfl⟩ p9 (pW _ _) (zdg a its.toArray n dd sl t) ⟨ho,⟨.ref a,H,I,rfl,q1 rfl⟩⟩
 ·by_cases hk0:k<=0
  ·refine mf mC ⟨_,ho,rfl⟩ p9 (pW _ _) (zcz a its.toArray n dd sl k t hk0 h1 hie) ⟨ho,?_⟩;have e:(List.replicate k.toNat xs).flatten=[]:=by
    have:k.toNat=0:=by omega
    rw[this];rfl
   have q:=q2 hk1 _ (I.hok.fresh (qf _));rw[e] at q;exact⟨.ref s.heap.objs.size,_,I.laid (o:=.tup []) (t':=s.toks) (λc o e=>qm _ e) (qf _) ⟨kE _,[],.nil,⟨_,qJ _ rfl,rfl,_,rfl⟩⟩,rfl,q⟩
  ·refine mf mC ⟨_,ho,rfl⟩ p9 (pW _ _) (zcp a its.toArray n dd sl k t (by omega) h2 hie hzz) ⟨ho,?_⟩;rw[hf];refine⟨.ref s.heap.objs.size,_,I.laid (o:=.tup (List.replicate k.toNat xs).flatten) (t':=s.toks) (λc o e=>qm _ e) (qf _) ⟨?_,_,r.rep k.toNat,⟨_,qJ _ rfl,rfl,_,rfl⟩⟩,rfl,q2 hk1 _ (I.hok.fresh (qf _))⟩;rw[len_rep,mj];exact hz
def zjr:PyData->PyData->Option PyData
 | .tuple ds,.int k=>if ds≠[]/\-(2 ^ 63)<=k/\k<2 ^ 63/\ds.length*k.toNat<=16777216 then some (.tuple (List.replicate k.toNat ds).flatten) else none
 |_,_=>none
def zj4{K:FRx}:R2F K (zk0 K) zjr:=by
 intro x y H os d e c Q al r1 r2 h k;unfold zjr at h;split at h
 ·rename_i ds n;split at h
  ·rename_i hc;cases h;obtain⟨a,xs,rfl,hS,hSo,r⟩:=r1.tup;refine⟨a,n,xs,rfl,r2.int,hS,λz=>hc.1 ?_,hc.2.1,hc.2.2.1,by rw[r.length];exact hc.2.2.2,λz=>?_,λz p hp=>?_⟩
   ·have:=r.length;rw[z] at this;exact List.eq_nil_of_length_eq_zero this.symm
   ·subst z;have e:(List.replicate (1:Int).toNat ds).flatten=ds:=by simp
    rw[e] at k;exact k _ H (Same.refl H) (.tup hSo r)
   ·have s:=ya hp (.tup (List.replicate n.toNat xs).flatten);refine k _ _ s (.tup (SqT.of ?_) ((Vl r _).same (zm s os)));rw[zw (al.new hp)];exact zH
  ·cases h
 ·cases h
end L2.Fu
namespace L2.Fu
open PySem PySem.Spec PyProof.Rows
def zig(h:Heap)(a l:AdX)(i:Int):Prop:=∃o,h.get? a=some o/\o.cls=.type "reversed"/\o.data=.fields #[.ref l,rawInt i]
section
variable{prog:Program}{w:World}{A:Around}{E:VSx}{s:ShX}
def zig.typeIs{a l:AdX}{i:Int}(x:zig s.heap a l i):s.TypeIs (.ref a) "reversed":=let ⟨o,ho,hc,_⟩:=x;⟨o,ho,hc⟩
end
end L2.Fu
namespace L2.Fu
open PySem
def zi3(i:Nat):Ro->Nat:=λρ=>match ρ[i]? with |some (.pu (.int b))=>b.natAbs+1|_=>0
abbrev wN:Ro->Nat:=zi3 1
abbrev Zx:Ro->Nat:=zi3 3
end L2.Fu
namespace L2.Fu
open PySem PySem.Spec PyProof.Rows
def Ur:RFx:=(sq (ifS (zG (op2 ltI (gv 1) (zg yj (aC (gv 0) a0)))) (retS (op2 ixD (gv 0) (gv 1))) s0)
 (retS (cst (.int 0))))
def xb:LPx:=fnF 2 2 Ur
def zaE:RFx:=(sq (zX 2 (zg zky (aC (gv 0) a0)))
 (sq (zX 3 (gv 1))
 (sq (whS Zx (zG (op2 gtI (gv 3) (cst (.int 0)))) (sq (zX 4 (op2 xF (gv 2) (gv 3)))
 (sq (zX 2 (gv 3))
 (zX 3 (gv 4)))))
 (retS (xj (aC (op2 yS (gv 0) (gv 2)) (aC (op2 yS (gv 1) (gv 2)) a0)))))))
def ux:LPx:=fnF 5 2 zaE
def Js:RFx:=(retS (zg ux (aC (op2 Yt (op2 xF (gv 0) (cst (.int 9))) (cst (.int 4))) (aC (op2 ixD (yg (vq (aC (cst (.int 1)) (aC (cst (.int 1)) (aC (cst (.int 2)) (aC (cst (.int 1)) (aC (cst (.int 3)) a0))))))) (op2 xF (op2 yS (gv 0) (cst (.int 9))) (cst (.int 5)))) a0))))
def xi:LPx:=fnF 1 1 Js
def vk:RFx:=(sq (jc 3 (vq a0))
 (sq (jS (y4 (aC (op2 yB (gv 1) (op2 xD (cst (.int 2)) (op2 yB (gv 1) (gv 2)))) a0)) (bN 4) (sq (zX 0 (op2 xF (op2 xD (op2 yB (gv 0) (cst (.int 48271))) (cst (.int 29))) (cst (.int 2147483647))))
 (apS 3 (ifE (zG (op2 eqD (op2 xF (op2 yS (gv 0) (cst (.int 11))) (cst (.int 3))) (cst (.int 0)))) (xj (aC (cst (.int 0)) (aC (cst (.int 1)) a0))) (zg xi (aC (op2 yS (gv 0) (cst (.int 33))) a0))))))
 (sq (jc 5 (vq a0))
 (sq (jS (y4 (aC (gv 2) a0)) (bN 6) (sq (jc 7 (vq a0))
 (sq (jS (y4 (aC (gv 1) a0)) (bN 8) (sq (zX 9 (op2 xD (op2 yB (cst (.int 2)) (gv 1)) (op2 yB (op2 xD (op2 yB (gv 6) (gv 1)) (gv 8)) (gv 1))))
 (apS 7 (zg zW (aC (yg (slL (gb 3) (oS (gv 9)) (oS (op2 xD (gv 9) (gv 1))))) a0)))))
 (apS 5 (zg zW (aC (gb 7) a0))))))
 (retS (xj (aC (zg zW (aC (yg (slL (gb 3) o0 (oS (gv 1)))) a0)) (aC (zg zW (aC (gb 5) a0)) (aC (zg zW (aC (yg (slL (gb 3) (oS (gv 1)) (oS (op2 yB (cst (.int 2)) (gv 1))))) a0)) a0)))))))))
def xX:LPx:=fnF 10 3 vk
def YN:RFx:=(sq (jc 3 (vq a0))
 (sq (jS (y4 (aC (op2 xF (gv 0) (op2 xD (gv 2) (cst (.int 1)))) a0)) (bN 4) (sq (zX 0 (op2 xF (op2 xD (op2 yB (gv 0) (cst (.int 48271))) (cst (.int 17))) (cst (.int 2147483647))))
 (apS 3 (op2 xF (op2 yS (gv 0) (cst (.int 5))) (gv 1)))))
 (retS (zg zW (aC (gb 3) a0)))))
def U3:LPx:=fnF 5 3 YN
def Yo:RFx:=(retS (zg ux (aC (op2 yB (op2 ixD (gv 0) (cst (.int 0))) (op2 ixD (gv 1) (cst (.int 0)))) (aC (op2 yB (op2 ixD (gv 0) (cst (.int 1))) (op2 ixD (gv 1) (cst (.int 1)))) a0))))
def yz:LPx:=fnF 2 2 Yo
def Z7:RFx:=(retS (zg ux (aC (op2 xD (op2 yB (op2 ixD (gv 0) (cst (.int 0))) (op2 ixD (gv 1) (cst (.int 1)))) (op2 yB (op2 ixD (gv 1) (cst (.int 0))) (op2 ixD (gv 0) (cst (.int 1))))) (aC (op2 yB (op2 ixD (gv 0) (cst (.int 1))) (op2 ixD (gv 1) (cst (.int 1)))) a0))))
def xf:LPx:=fnF 2 2 Z7
def ur:RFx:=(sq (whS wN (zG (op2 neD (gv 1) (cst (.int 0)))) (sq (zX 2 (op2 xF (gv 0) (gv 1)))
 (sq (zX 0 (gv 1))
 (zX 1 (gv 2)))))
 (retS (zg zky (aC (gv 0) a0))))
def yM:LPx:=fnF 3 2 ur
def Jl:RFx:=(sq (zX 1 (cst (.int 1)))
 (sq (jS (yw (gv 0)) (bN 2) (zX 1 (op2 yB (gv 1) (op2 yS (op2 ixD (gv 2) (cst (.int 1))) (zg yM (aC (gv 1) (aC (op2 ixD (gv 2) (cst (.int 1))) a0)))))))
 (retS (gv 1))))
def yk:LPx:=fnF 3 1 Jl
def Yg:RFx:=(Uh (zR 1 [1] (yw (gv 0)) (bN 0) (op2 yB (op2 ixD (gv 0) (cst (.int 0))) (op2 yS (gv 1) (op2 ixD (gv 0) (cst (.int 1)))))))
def yX:LLx:=fnL 2 2 Yg
def zdK:RFx:=(retS (zg zW (aC (yg (zR 1 [1] (yw (gv 0)) (bN 0) (op2 ixD (gv 0) (gv 1)))) a0)))
def Jw:LPx:=fnF 2 2 zdK
def Vx:RFx:=(sq (jc 1 (vq a0))
 (sq (jS (yw (gv 0)) (bN 2) (exT 1 (gv 2)))
 (sq (zX 3 (ZZ yk (aC (gb 1) a0)))
 (sq (jc 4 (zR 1 [0,3] (y4 (aC (zg yj (aC (gv 0) a0)) a0)) (bN 0) (yg (y3 yX (aC (zg Jw (aC (gv 1) (aC (gv 0) a0))) (aC (gv 2) a0))))))
 (frS 4 (retS (xj (aC (gv 4) (aC (gv 3) a0)))))))))
def vH:LPx:=fnF 5 1 Vx
def uo:RFx:=(retS (zg zhW (aC (yg (zR 2 [] (Ue false false (aC (gv 0) (aC (gv 1) a0))) (b2 (bN 0) (bN 1)) (op2 yB (gv 0) (gv 1)))) a0)))
def yd:LPx:=fnF 2 2 uo
def zc1:RFx:=(Uh (zR 1 [0] (yw (gv 1)) (bN 0) (zg yd (aC (gv 1) (aC (gv 0) a0)))))
def Wd:LLx:=fnL 2 2 zc1
def zdy:RFx:=(sq (zX 2 (zg yM (aC (gv 0) (aC (gv 1) a0))))
 (sq (ifS (zG (op2 ltI (gv 1) (cst (.int 0)))) (zX 2 (op1 zaB (gv 2))) s0)
 (retS (xj (aC (op2 yS (gv 0) (gv 2)) (aC (op2 yS (gv 1) (gv 2)) a0))))))
def uz:LPx:=fnF 3 2 zdy
def Yi:RFx:=(retS (zgQ (op1 (zgE "int") (gv 0)) (zmK (op1 (zgE "bool") (gv 0)))))
def Yb:LPx:=fnF 1 1 Yi
def zaU:RFx:=(sq (zX 2 (xj (aC (cst (.int 0)) (aC (cst (.int 1)) a0))))
 (sq (jS (y4 (aC (zg yj (aC (gv 0) a0)) a0)) (bN 3) (zX 2 (zg xf (aC (gv 2) (aC (zg yz (aC (op2 ixD (gv 0) (gv 3)) (aC (op2 ixD (gv 1) (gv 3)) a0))) a0)))))
 (retS (gv 2))))
def xp:LPx:=fnF 4 2 zaU
def zaG:RFx:=(sq (jc 2 (vq a0))
 (sq (jS (y4 (aC (zg yj (aC (gv 0) a0)) a0)) (bN 3) (apS 2 (zg xp (aC (gv 0) (aC (yg (zR 1 [1,3] (y4 (aC (zg yj (aC (gv 0) a0)) a0)) (bN 0) (op2 ixD (op2 ixD (gv 1) (gv 0)) (gv 2)))) a0)))))
 (Uh (gk 2))))
def xo:LLx:=fnL 4 2 zaG
def zbf:RFx:=(sq (jc 2 (y3 uB (aC (op2 ixD (gv 0) (cst (.int 0))) a0)))
 (sq (jS (yw (gv 1)) (bN 3) (frS 2 (jc 2 (y3 xo (aC (gv 2) (aC (op2 ixD (op2 ixD (gv 0) (cst (.int 1))) (gv 3)) a0))))))
 (Uh (gk 2))))
def uv:LLx:=fnL 4 2 zbf
def Vq:RFx:=(retS (zg xp (aC (yg (y3 uv (aC (gv 0) (aC (gv 1) a0)))) (aC (op2 ixD (gv 0) (cst (.int 2))) a0))))
def yT:LPx:=fnF 2 2 Vq
def Jo:RFx:=(sq (zX 2 (zg yj (aC (op2 ixD (gv 0) (cst (.int 1))) a0)))
 (sq (zX 3 (zg yj (aC (op2 ixD (gv 1) (cst (.int 1))) a0)))
 (ifS (zG (op2 neD (gv 2) (gv 3))) (λ_=>none) s0)))
def vD:LPx:=fnF 4 2 Jo
def zfS:RFx:=(retS (zg uz (aC (op2 yB (op2 ixD (gv 0) (cst (.int 0))) (op2 ixD (gv 1) (cst (.int 0)))) (aC (op2 yB (op2 ixD (gv 0) (cst (.int 1))) (op2 ixD (gv 1) (cst (.int 1)))) a0))))
def zbH:LPx:=fnF 2 2 zfS
def V3:RFx:=(retS (zg zW (aC (yg (zR 1 [1] (yw (gv 0)) (bN 0) (zg zbH (aC (gv 0) (aC (gv 1) a0))))) a0)))
def Jd:LPx:=fnF 2 2 V3
def Uj:RFx:=(retS (zg zW (aC (yg (zR 1 [0] (y4 (aC (zg yj (aC (gv 0) a0)) a0)) (bN 0) (zg Jw (aC (gv 1) (aC (gv 0) a0))))) a0)))
def ua:LPx:=fnF 1 1 Uj
def zdm:RFx:=(retS (xj (aC (op2 ixD (gv 0) (cst (.int 2))) (aC (zg zW (aC (yg (zR 1 [] (yw (op2 ixD (gv 0) (cst (.int 1)))) (bN 0) (zg ua (aC (gv 0) a0)))) a0)) (aC (op2 ixD (gv 0) (cst (.int 0))) a0)))))
def Vy:LPx:=fnF 1 1 zdm
def Zw:RFx:=(sq (zX 2 (zg yk (aC (gv 0) a0)))
 (sq (zX 3 (zg yk (aC (gv 1) a0)))
 (sq (zX 4 (zg yd (aC (yg (y3 yX (aC (gv 0) (aC (gv 2) a0)))) (aC (yg (y3 yX (aC (gv 1) (aC (gv 3) a0)))) a0))))
 (retS (zg uz (aC (gv 4) (aC (op2 yB (gv 2) (gv 3)) a0)))))))
def vW:LPx:=fnF 5 2 Zw
def zbd:RFx:=(retS (op2 zjr (xj (aC (cst (.tuple [.int 0,.int 1])) a0)) (gv 0)))
def uj:LPx:=fnF 1 1 zbd
def UD:RFx:=(sq (jc 3 (zR 2 [] (Ue true false (aC (gv 0) (aC (gv 1) a0))) (b2 (bN 0) (bN 1)) (op2 Jq (gv 0) (gv 1))))
 (sq (jc 4 (zR 1 [0] (yw (gv 2)) (bN 0) (op2 Jq (zg uj (aC (zg yj (aC (gv 1) a0)) a0)) (gv 0))))
 (retS (zg zW (aC (yg (zgO (gk 3) (gk 4))) a0)))))
def ud:LPx:=fnF 5 3 UD
end L2.Fu
namespace WS
open Rat
def zdF(a b:Int):Int.gcd b (a.fmod b)=Int.gcd a b:=by
 rw[Int.fmod_def,Int.gcd_comm a b];have h:a - b*a.fdiv b=a+b*(-(a.fdiv b)):=by rw[Int.mul_neg];rfl
 rw[h];exact Int.gcd_add_mul_left_right ..
def zaR{a b:Int}(h:b≠0):(a.fmod b).natAbs<b.natAbs:=by
 rcases Int.lt_or_gt_of_ne h with hb|hb
 ·have h3:=mJ (-a) (b:=-b) (by omega);have h4:=pH (-a) (b:=-b) (by omega)
  rw[Int.neg_fmod_neg] at h3 h4;omega
 ·have h1:=mJ a hb;have h2:=pH a hb
  omega
def vQ{t b:Int}(hb:b≠0):(0:Int)<(Int.gcd t b:Int):=by
 have:=Int.gcd_pos_of_ne_zero_right t hb;omega
def zbY{t b c:Int}(hb:b≠0)(hc:c=if b<0 then -(Int.gcd t b:Int) else (Int.gcd t b:Int)):t.fdiv c=(divInt t b).num:=by
 have hg:=vQ (t:=t) hb;have h1:(Int.gcd t b:Int) ∣ t:=Int.gcd_dvd_left ..
 have⟨k,hk⟩:=h1;rw[num_divInt,Int.gcd_comm b t];by_cases h:b<0
 ·rw[qj h] at hc;subst hc;rw[Int.sign_eq_neg_one_of_neg h];have e1:t.fdiv (-(Int.gcd t b:Int))=-k:=h9 (by omega) (by rw[Int.neg_mul_neg];exact hk);have e2:(-1*t) / (Int.gcd t b:Int)=-k:=ma (by omega) (by rw[Int.mul_neg,<-hk];omega)
  rw[e1,e2]
 ·rw[qo h] at hc;subst hc;rw[Int.sign_eq_one_of_pos (by omega),Int.one_mul];have e1:t.fdiv (Int.gcd t b:Int)=k:=h9 (by omega) hk;have e2:t / (Int.gcd t b:Int)=k:=ma (by omega) hk
  rw[e1,e2]
def zbO{t b c:Int}(hb:b≠0)(hc:c=if b<0 then -(Int.gcd t b:Int) else (Int.gcd t b:Int)):b.fdiv c=((divInt t b).den:Int):=by
 have hg:=vQ (t:=t) hb;have h1:(Int.gcd t b:Int) ∣ b:=Int.gcd_dvd_right ..
 have⟨k,hk⟩:=h1;rw[den_divInt,qo hb,Int.gcd_comm b t];have e3:((b.natAbs / Int.gcd t b:Nat):Int)=(b.natAbs:Int) / (Int.gcd t b:Int):=rfl;rw[e3];by_cases h:b<0
 ·rw[qj h] at hc;subst hc;have e1:b.fdiv (-(Int.gcd t b:Int))=-k:=h9 (by omega) (by rw[Int.neg_mul_neg];exact hk);have e2:(b.natAbs:Int) / (Int.gcd t b:Int)=-k:=ma (by omega) (by rw[Int.mul_neg,<-hk];omega)
  rw[e1,e2]
 ·rw[qo h] at hc;subst hc;have e1:b.fdiv (Int.gcd t b:Int)=k:=h9 (by omega) hk;have e2:(b.natAbs:Int) / (Int.gcd t b:Int)=k:=ma (by omega) (by rw[<-hk];omega)
  rw[e1,e2]
def zd4(q r:Rat):divInt (q.num*(r.den:Int)+r.num*(q.den:Int)) ((q.den:Int)*(r.den:Int))=q+r:=by
 have h1:(q.den:Int)≠0:=by have:=q.den_pos;omega
 have h2:(r.den:Int)≠0:=by have:=r.den_pos;omega
 have e:=divInt_add_divInt q.num r.num h1 h2;rw[pG,pG] at e;exact e.symm
def VU(q r:Rat):divInt (q.num*r.num) ((q.den:Int)*(r.den:Int))=q*r:=by
 have e:=divInt_mul_divInt q.num r.num (d₁:=(q.den:Int)) (d₂:=(r.den:Int));rw[pG,pG] at e;exact e.symm
def ZS(q:Rat):(q.den:Int)≠0:=by have:=q.den_pos;omega
def zdB(q:Rat):(0:Int)<(q.den:Int):=by have:=q.den_pos;omega
def zhn(t b:Int):(divInt t b).num.natAbs<=t.natAbs:=by
 rw[num_divInt];have h:(b.sign*t / (b.gcd t:Int)).natAbs<=(b.sign*t).natAbs:=Int.natAbs_ediv_le_natAbs ..;rw[kg,Int.natAbs_sign] at h;split at h<;>omega
def zl7{t b:Int}(hb:b≠0):(divInt t b).den<=b.natAbs:=by
 rw[den_divInt,qo hb];exact Nat.div_le_self ..
end WS
namespace WD
open PySem L2 WS
open PySem.Builtin.Int (intBits)
def fr(q:Rat):PyData:=.tuple [.int q.num,.int (q.den:Int)]
def ziI(q r:Rat):PyData.eqv (fr q) (fr r)=decide (q=r):=by
 simp only [fr,PyData.eqv,PyData.eqvAll];by_cases h:q=r
 ·subst h;simp
 ·rw[qM h];by_cases h1:q.num=r.num
  ·by_cases h2:q.den=r.den
   ·exact absurd (Rat.ext h1 h2) h
   ·simp[h1]
    omega
  ·simp[h1]
def W2{x:Int}{m:Nat}(hx:x≠0)(h:intBits x<=m):x.natAbs.log2<m:=by
 have h1:=(intBits_le_iff (m:=m) (x:=x)).mp h;exact(pU (by omega)).mpr h1
def zhJ{t b:Int}{m:Nat}(hb:b≠0)(h:intBits b<=m):intBits (Int.gcd t b:Int)<=m:=by
 refine gh ?_ h;exact Int.gcd_le_natAbs_right (a:=t) hb
def jE{x:Int}{m:Nat}(h:x.natAbs<2 ^ m):intBits x<=m:=mX.mpr h
def jf{a b:Int}{m n:Nat}(ha:intBits a<=m)(hb:intBits b<=n)(h:m+n<=134217728:=by decide):IntMulOk a b:=IntMulOk.of_le ha hb h
structure Bq(m:Nat)(q:Rat):Prop where
 n:intBits q.num<=m
 d:intBits (q.den:Int)<=m
def YK{q r:Rat}(hq:Bq 4000 q)(hr:Bq 4000 r):IntMulOk q.num (r.den:Int)/\IntMulOk r.num (q.den:Int)/\IntMulOk (q.den:Int) (r.den:Int)/\IntMulOk q.num r.num/\IntMulOk (q.den:Int) r.num:=⟨jf hq.n hr.d,jf hr.n hq.d,jf hq.d hr.d,jf hq.n hr.n,jf hq.d hr.n⟩
def zd8(q r:Rat):(q.den:Int)*(r.den:Int)≠0:=g9 (ZS q) (ZS r)
def Sz(m:Nat):Prop:=intBits (m:Int)<=4000
def Sz.mono{m n:Nat}(h:m<=n)(s:Sz n):Sz m:=gh (y:=(n:Int)) h s
def Sz.bits{x:Int}{B:Nat}(s:Sz B)(h:x.natAbs<=B):intBits x<=4000:=gh (y:=(B:Int)) h s
def Sz.Ui{k:Nat}(h:k<4000):Sz (2 ^ k):=by
 refine mX.mpr ?_;exact kS (by decide) h
def yr(n:Nat)(f:Q1x):PyData:=.tuple ((List.range n).map λi=>fr (f i))
def yp(n:Nat)(f:Q1x):PyData:=.list ((List.range n).map λi=>fr (f i))
def yE(n:Nat)(f:Q2x):PyData:=.tuple ((List.range n).map λa=>yr n (f a))
def Ws(n s:Nat)(st:Q3x):PyData:=.tuple ((List.range s).map λg=>yE n (st g))
def zq(n s:Nat)(fi:Q1x)(st:Q3x)(la:Q1x):PyData:=.tuple [yr n fi,Ws n s st,yr n la]
def yt(ws:LNt):PyData:=.tuple (ws.map λ(g:Nat)=>PyData.int (g:Int))
section
variable{K:FRx}{H:Hp}{v:V}
def get_map{d:Nat->PyData}{n i:Nat}(h:i<n):((List.range n).map d)[i]?=some (d i):=by
 rw[qq,kd h];rfl
end
structure InB(m B:Nat)(q:Rat):Prop where
 pos:0<m
 ex:∃x:Int,q*(m:Rat)=(x:Rat)/\x.natAbs<=B
def ja{m:Nat}(h:0<m):(m:Rat)≠0:=by
 intro z
 have:(m:Rat)=((0:Nat):Rat):=by rw[z];rfl
 have:=Rat.natCast_inj.mp this;omega
def InB.eq{m B:Nat}{q:Rat}(h:InB m B q):∃x:Int,q=Rat.divInt x (m:Int)/\x.natAbs<=B:=by
 have⟨x,e,hx⟩:=h.ex;refine⟨x,?_,hx⟩;have hm:=ja h.pos;rw[mE];have e2:((m:Int):Rat)=(m:Rat):=kh m
 rw[e2];grind
def InB.num{m B:Nat}{q:Rat}(h:InB m B q):q.num.natAbs<=B:=by
 obtain⟨x,rfl,hx⟩:=h.eq;exact qw (zhn _ _) hx
def InB.den{m B:Nat}{q:Rat}(h:InB m B q):q.den ∣ m:=by
 obtain⟨x,rfl,hx⟩:=h.eq;have hp:=h.pos;rw[Rat.den_divInt,qo (by omega)];have h1:Int.gcd (m:Int) x ∣ (m:Int).natAbs:=Int.gcd_dvd_natAbs_left _ _
 exact Nat.div_dvd_of_dvd h1
def InB.bq{m B:Nat}{q:Rat}(h:InB m B q)(hm:Sz m)(hB:Sz B):Bq 4000 q:=⟨hB.bits h.num,hm.bits (gc h.pos h.den)⟩
def InB.zero{m B:Nat}(h:0<m):InB m B 0:=⟨h,0,by grind,kE _⟩
def InB.add{m B C:Nat}{q r:Rat}(h:InB m B q)(k:InB m C r):InB m (B+C) (q+r):=by
 have⟨x,e,hx⟩:=h.ex;have⟨y,f,hy⟩:=k.ex;refine⟨h.pos,x+y,?_,by omega⟩;rw[Rat.intCast_add];grind
def InB.mul{m n B C:Nat}{q r:Rat}(h:InB m B q)(k:InB n C r):InB (m*n) (B*C) (q*r):=by
 have⟨x,e,hx⟩:=h.ex;have⟨y,f,hy⟩:=k.ex;refine⟨kH h.pos k.pos,x*y,?_,?_⟩
 ·rw[ki,mz];grind
 ·rw[kg];exact ky hx hy
def InB.mono{m B C:Nat}{q:Rat}(h:InB m B q)(k:B<=C):InB m C q:=by
 have⟨x,e,hx⟩:=h.ex;exact⟨h.pos,x,e,qw hx k⟩
def InB.up{m B:Nat}{q:Rat}(h:InB m B q){c:Nat}(hc:0<c):InB (m*c) (B*c) q:=by
 have⟨x,e,hx⟩:=h.ex;refine⟨kH h.pos hc,x*c,?_,?_⟩
 ·rw[ki,mz,kh];grind
 ·rw[kg];exact ky hx (nQ (by simp))
def sumTo:Nat->(Nat->Rat)->Rat
 |0,_=>0
 |n+1,f=>sumTo n f+f n
theorem xJ{m B:Nat}{f:Q1x}(hm:0<m):∀n,(∀i,i<n->InB m B (f i))->InB m (n*B) (sumTo n f)
 |0,_=>InB.zero hm
 |n+1,h=>by
  have:=(xJ hm n λi hi=>h i (by omega)).add (h n (by omega));rw[gH];exact this
theorem zf{f g:Q1x}:∀n,(∀i,i<n->f i=g i)->sumTo n f=sumTo n g
 |0,_=>rfl
 |n+1,h=>by
  show sumTo n f+f n=sumTo n g+g n
  rw[zf n λi hi=>h i (by omega),h n (by omega)]
theorem zM(c:Rat)(f:Q1x):∀n,sumTo n (λi=>f i*c)=sumTo n f*c
 |0=>by
  show(0:Rat)=0*c
  grind
 |n+1=>by
  show sumTo n (λi=>f i*c)+f n*c=(sumTo n f+f n)*c
  rw[zM c f n];grind
theorem JU(f g:Q1x):∀n,sumTo n (λi=>f i+g i)=sumTo n f+sumTo n g
 |0=>by
  show(0:Rat)=0+0
  grind
 |n+1=>by
  show sumTo n (λi=>f i+g i)+(f n+g n)=(sumTo n f+f n)+(sumTo n g+g n)
  rw[JU f g n];grind
def led(n:Nat)(r:Q1x)(M:Q2x):Nat->Rat:=λb=>sumTo n λa=>r a*M a b
def zN(n:Nat)(st:Q3x):(Nat->Rat)->List Nat->Nat->Rat
 |r,[]=>r
 |r,g::w=>zN n st (led n r (st g)) w
def wt(n:Nat)(st:Q3x)(fi la:Q1x)(w:LNt):Rat:=sumTo n λa=>zN n st fi w a*la a
theorem wO(n:Nat)(st:Q3x):∀(r:Q1x)(u w:LNt),zN n st r (u++w)=zN n st (zN n st r u) w
 |_,[],_=>rfl
 |r,g::u,w=>wO n st (led n r (st g)) u w
def xK(qs:List Rat):Nat:=qs.foldl (λb q=>Nat.lcm b q.den) 1
def zg0(qs:List Rat)(q:Rat):xK (qs++[q])=Nat.lcm (xK qs) q.den:=by
 unfold xK;rw[List.foldl_append];rfl
def ZI(qs:List Rat):0<xK qs:=by
 unfold xK;generalize hb:(1:Nat)=b;have hp:0<b:=by omega
 clear hb;induction qs generalizing b with
 |nil=>exact hp
 |cons q r ih=>exact ih _ (Nat.lcm_pos hp q.den_pos)
def VN{M:Nat}(qs:List Rat)(h:∀q∈qs,q.den ∣ M):xK qs ∣ M:=by
 unfold xK;generalize hb:(1:Nat)=b;have hp:b ∣ M:=by rw[<-hb];exact Nat.one_dvd _
 clear hb;induction qs generalizing b with
 |nil=>exact hp
 |cons q r ih=>exact ih (λx hx=>h x (qA _ hx)) _ (Nat.lcm_dvd hp (h q ka))
def zap(qs:List Rat):∀b:Nat,b ∣ qs.foldl (λb q=>Nat.lcm b q.den) b:=by
 induction qs with
 |nil=>intro b;exact pN _
 |cons q r ih=>intro b;exact Nat.dvd_trans (Nat.dvd_lcm_left _ _) (ih _)
def zac(qs:List Rat):∀q∈qs,q.den ∣ xK qs:=by
 unfold xK;generalize (1:Nat)=b;induction qs generalizing b with
 |nil=>intro q h;cases h
 |cons x r ih=>
  intro q h;rcases qx.mp h with rfl|h
  ·exact Nat.dvd_trans (Nat.dvd_lcm_right _ _) (zap r _)
  ·exact ih _ q h
def ziE(b d:Nat):(b:Int)*((d:Int).fdiv (Int.gcd (b:Int) (d:Int):Int))=((Nat.lcm b d:Nat):Int):=by
 have e1:Int.gcd (b:Int) (d:Int)=Nat.gcd b d:=rfl;rw[e1,bb _ (by omega)];have e2:(d:Int) / ((Nat.gcd b d:Nat):Int)=((d / Nat.gcd b d:Nat):Int):=rfl
 rw[e2];have e3:b*(d / Nat.gcd b d)=Nat.lcm b d:=by
  rw[Nat.lcm,Nat.mul_div_assoc _ (Nat.gcd_dvd_right b d)]
 rw[<-e3];rfl
def jx(q:Rat)(B:Nat):Int:=q.num*((B / q.den:Nat):Int)
def jF{q:Rat}{B:Nat}(h:q.den ∣ B):(jx q B:Rat)=q*(B:Rat):=by
 obtain⟨c,rfl⟩:=h;unfold jx;rw[Nat.mul_div_cancel_left _ q.den_pos];have e:=Rat.num_divInt_den q;rw[mE,kh] at e;have hd:=ja q.den_pos
 rw[ki,mz,kh];have e2:(q.num:Rat)=q*(q.den:Rat):=by
  generalize (q.num:Rat)=x at e;grind
 rw[e2];grind
def zhQ(q:Rat)(B:Nat):q.num*((B:Int).fdiv (q.den:Int))=jx q B:=by
 unfold jx;rw[bb _ (by omega)];rfl
def yo:Nat->(Nat->Int)->Int
 |0,_=>0
 |n+1,f=>yo n f+f n
theorem WI(f:Z1x):∀n,((List.range n).map f).sum=yo n f
 |0=>rfl
 |n+1=>by
  rw[gP,qW,List.sum_append,WI f n];simp[yo]
theorem Jy(f:Z1x):∀n,((yo n f:Int):Rat)=sumTo n λi=>(f i:Rat)
 |0=>rfl
 |n+1=>by
  show((yo n f+f n:Int):Rat)=sumTo n (λi=>(f i:Rat))+(f n:Rat)
  rw[Rat.intCast_add,Jy f n]
theorem JD{f:Z1x}{B:Nat}:∀n,(∀i,i<n->(f i).natAbs<=B)->(yo n f).natAbs<=n*B
 |0,_=>by simp[yo]
 |n+1,h=>by
  have h1:=JD n λi hi=>h i (by omega)
  have h2:=h n (by omega);show(yo n f+f n).natAbs<=_
  rw[gH];omega
end WD
namespace L2.Fu
open PySem WS WD
open PySem.Builtin.Int (intBits)
def Yn(c:Ro->Option Bool)(b:RFx)(n:Nat)(ρ:Ro):wj c b (n+1) ρ=(c ρ).bind λt=>if t then (match b ρ with |some (.nx ρ')=>wj c b n ρ'|r=>r) else some (.nx ρ):=rfl
def zbg{c:Ro->Option Bool}{b:RFx}{n:Nat}{ρ ρ':Ro}(h1:c ρ=some true)(h2:b ρ=some (.nx ρ')):wj c b (n+1) ρ=wj c b n ρ':=by
 rw[Yn,h1,qp,qj rfl,h2]
def Zl{c:Ro->Option Bool}{b:RFx}{n:Nat}{ρ:Ro}(h1:c ρ=some false):wj c b (n+1) ρ=some (.nx ρ):=by
 rw[Yn,h1,qp,qo qL]
def zv{f g:RFx}{ρ ρ':Ro}(h:f ρ=some (.nx ρ')):sq f g ρ=g ρ':=by
 unfold sq;rw[h]
def za1{f g:RFx}{ρ:Ro}{d:PdX}(h:f ρ=some (.rt d)):sq f g ρ=some (.rt d):=by
 unfold sq;rw[h]
def znb{f g:RFx}{ρ:Ro}{d:LPd}(h:f ρ=some (.rl d)):sq f g ρ=some (.rl d):=by
 unfold sq;rw[h]
def zfj(i j:Int):PyData.eqv (.int i) (.int j)=decide (i=j):=by
 simp[PyData.eqv]
 by_cases h:i=j<;>simp[h]
def jh{i j:Int}(h:j≠0):xF (.int i) (.int j)=some (.int (i.fmod j)):=by
 show(if j≠0 then _ else _)=_
 rw[qj h]
def jd{i j:Int}(h:j≠0)(h2:j.natAbs.log2<9000):yS (.int i) (.int j)=some (.int (i.fdiv j)):=by
 show(if j≠0/\j.natAbs.log2<9000 then _ else _)=_
 rw[qj ⟨h,h2⟩]
def yV{i j:Int}(h:IntMulOk i j):yB (.int i) (.int j)=some (.int (i*j)):=by
 show(open Classical in if IntMulOk i j then _ else _)=_
 rw[qj h]
def wI(i j:Int):neD (.int i) (.int j)=some (.bool (!decide (i=j))):=by
 show(if SeqAt.shaped (.int i)=true/\SeqAt.shaped (.int j)=true then _ else _)=_
 rw[qj ⟨rfl,rfl⟩,zfj]
def J5(i j:Int):eqD (.int i) (.int j)=some (.bool (decide (i=j))):=by
 show(if SeqAt.shaped (.int i)=true/\SeqAt.shaped (.int j)=true then _ else _)=_
 rw[qj ⟨rfl,rfl⟩,zfj]
def zE{f:RPx}{ρ:Ro}{b:Bool}(h:f ρ=some (.bool b)):zG f ρ=some b:=by
 unfold zG;rw[h]
def uF{c:Ro->Option Bool}{f g:RFx}{ρ:Ro}(h:c ρ=some true):ifS c f g ρ=f ρ:=by
 unfold ifS;rw[h];rfl
def jZ{c:Ro->Option Bool}{f g:RFx}{ρ:Ro}(h:c ρ=some false):ifS c f g ρ=g ρ:=by
 unfold ifS;rw[h];rfl
def zD{i:Nat}{f:RPx}{ρ:Ro}{d:PdX}(h:f ρ=some d):zX i f ρ=some (.nx (ρ.set i (.pu d))):=by
 unfold zX;rw[h];rfl
def yI{i:Nat}{f:RLx}{ρ:Ro}{d:LPd}(h:f ρ=some d):jc i f ρ=some (.nx (ρ.set i (.ow d))):=by
 unfold jc;rw[h];rfl
def zA{f:RPx}{ρ:Ro}{d:PdX}(h:f ρ=some d):retS f ρ=some (.rt d):=by
 unfold retS;rw[h];rfl
def jH{f:RLx}{ρ:Ro}{d:LPd}(h:f ρ=some d):Uh f ρ=some (.rl d):=by
 unfold Uh;rw[h];rfl
def zlE{f:RPx}{ρ:Ro}{d:PdX}(h:f ρ=some d):exS f ρ=some (.nx ρ):=by
 unfold exS;rw[h];rfl
def zd{h:PyData->PyData->Option PyData}{f g:RPx}{ρ:Ro}{x y:PdX}(h1:f ρ=some x)(h2:g ρ=some y):op2 h f g ρ=h x y:=by
 unfold op2;rw[h1,h2];rfl
def zmM{h:PyData->Option PyData}{f:RPx}{ρ:Ro}{x:PdX}(h1:f ρ=some x):op1 h f ρ=h x:=by
 unfold op1;rw[h1];rfl
def zj{f:RPx}{g:RLx}{ρ:Ro}{x:PdX}{xs:LPd}(h1:f ρ=some x)(h2:g ρ=some xs):aC f g ρ=some (x::xs):=by
 unfold aC;rw[h1,h2];rfl
def zb{h:LPx}{g:RLx}{ρ:Ro}{xs:LPd}(h1:g ρ=some xs):zg h g ρ=h xs:=by
 unfold zg;rw[h1];rfl
def yY{h:LLx}{g:RLx}{ρ:Ro}{xs:LPd}(h1:g ρ=some xs):y3 h g ρ=h xs:=by
 unfold y3;rw[h1];rfl
def jU{g:RLx}{ρ:Ro}{xs:LPd}(h1:g ρ=some xs)(h2:xs.length<=16777216):xj g ρ=some (.tuple xs):=by
 unfold xj;rw[h1,qp,qj h2]
def zda{f g:RPx}{ρ:Ro}{x y:PdX}(h1:f ρ=some x)(h2:g ρ=some y):xj (aC f (aC g a0)) ρ=some (.tuple [x,y]):=jU (zj h1 (zj h2 rfl)) (show 2<=16777216 by decide)
def VL{f g h:RPx}{ρ:Ro}{x y z:PdX}(h1:f ρ=some x)(h2:g ρ=some y)(h3:h ρ=some z):xj (aC f (aC g (aC h a0))) ρ=some (.tuple [x,y,z]):=jU (zj h1 (zj h2 (zj h3 rfl))) (show 3<=16777216 by decide)
def zL{n m:Nat}{b:RFx}{ds:LPd}{d:PdX}(hm:ds.length=m)(h:b (ds.map Sl.pu++List.replicate (n - m) .no)=some (.rt d)):fnF n m b ds=some d:=by
 unfold fnF;rw[qj hm,h]
def zlQ{n m:Nat}{b:RFx}{ds:LPd}{ρ:Ro}(hm:ds.length=m)(h:b (ds.map Sl.pu++List.replicate (n - m) .no)=some (.nx ρ)):fnF n m b ds=some .none:=by
 unfold fnF;rw[qj hm,h]
def vA{n m:Nat}{b:RFx}{ds:LPd}{d:LPd}(hm:ds.length=m)(h:b (ds.map Sl.pu++List.replicate (n - m) .no)=some (.rl d)):fnL n m b ds=some d:=by
 unfold fnL;rw[qj hm,h]
theorem zfH:∀(n:Nat)(a b:Int)(o:Sl),b.natAbs<n->∃g o',wj (zG (op2 neD (gv 1) (cst (.int 0)))) (sq (zX 2 (op2 xF (gv 0) (gv 1))) (sq (zX 0 (gv 1)) (zX 1 (gv 2)))) n [.pu (.int a),.pu (.int b),o]=some (.nx [.pu (.int g),.pu (.int 0),o'])/\g.natAbs=Int.gcd a b
 |0,_,_,_,h=>by omega
 |n+1,a,b,o,h=>by
  by_cases hb:b=0
  ·subst hb;refine⟨a,o,?_,by rw[Int.gcd_zero_right]⟩;exact Zl (zE ((zd rfl rfl).trans (by rw[wI];rfl)))
  ·obtain⟨g,o',e1,e2⟩:=zfH n b (a.fmod b) (.pu (.int (a.fmod b))) (by have:=zaR (a:=a) hb;omega);refine⟨g,o',?_,by rw[e2];exact zdF a b⟩;rw[<-e1];refine zbg (zE ((zd rfl rfl).trans (by rw[wI,qM hb];rfl))) ?_;rw[zv (zD ((zd rfl rfl).trans (jh hb)))];rfl
def jX(a b:Int):yM [.int a,.int b]=some (.int (Int.gcd a b)):=by
 obtain⟨g,o',e1,e2⟩:=zfH (b.natAbs+1) a b .no (by omega);refine zL rfl ?_;refine(zv e1).trans (zA ?_);show some (PyData.int (if g<0 then -g else g))=_
 rw[<-e2];congr 2;split<;>omega
def zcg{t b:Int}(hb:b≠0)(hx:intBits b<=8999):(Int.gcd t b:Int).natAbs.log2<9000/\(-(Int.gcd t b:Int)).natAbs.log2<9000:=by
 have hg:=vQ (t:=t) hb;have h:=W2 (by omega) (zhJ (t:=t) hb hx)
 rw[ny];omega
def WK{t b:Int}(hb:b≠0)(hx:intBits b<=8999):uz [.int t,.int b]=some (fr (Rat.divInt t b)):=by
 have hg:=vQ (t:=t) hb;obtain⟨l1,l2⟩:=zcg (t:=t) hb hx;refine zL rfl ?_;refine(zv (zD ((zb rfl).trans (jX t b)))).trans ?_;by_cases h:b<0
 ·refine(zv (ρ':=[.pu (.int t),.pu (.int b),.pu (.int (-(Int.gcd t b:Int)))]) ?_).trans ?_
  ·rw[uF (zE (show _=some (PyData.bool true) from qR some (qR PyData.bool (qG h))))];rfl
  ·refine zA (zda ((zd rfl rfl).trans (jd (by omega) l2)) ((zd rfl rfl).trans (jd (by omega) l2))) |>.trans ?_;have hc:-(Int.gcd t b:Int)=(if b<0 then -(Int.gcd t b:Int) else (Int.gcd t b:Int)):=by rw[qj h]
   rw[zbY hb hc,zbO hb hc];rfl
 ·refine(zv (ρ':=[.pu (.int t),.pu (.int b),.pu (.int (Int.gcd t b:Int))]) ?_).trans ?_
  ·rw[jZ (zE (show _=some (PyData.bool false) from qR some (qR PyData.bool (qM h))))];rfl
  ·refine zA (zda ((zd rfl rfl).trans (jd (by omega) l1)) ((zd rfl rfl).trans (jd (by omega) l1))) |>.trans ?_;have hc:(Int.gcd t b:Int)=(if b<0 then -(Int.gcd t b:Int) else (Int.gcd t b:Int)):=by rw[qo h]
   rw[zbY hb hc,zbO hb hc];rfl
theorem zc9:∀(n:Nat)(t b0 a b:Int)(o:Sl),0<=a->0<=b->b.natAbs<n->∃g o',wj (zG (op2 gtI (gv 3) (cst (.int 0)))) (sq (zX 4 (op2 xF (gv 2) (gv 3))) (sq (zX 2 (gv 3)) (zX 3 (gv 4)))) n [.pu (.int t),.pu (.int b0),.pu (.int a),.pu (.int b),o]=some (.nx [.pu (.int t),.pu (.int b0),.pu (.int g),.pu (.int 0),o'])/\g=(Int.gcd a b:Int)
 |0,_,_,_,_,_,_,_,h=>by omega
 |n+1,t,b0,a,b,o,ha,hb0,h=>by
  by_cases hb:b=0
  ·subst hb;refine⟨a,o,?_,by rw[Int.gcd_zero_right];omega⟩;exact Zl (zE (show _=some (PyData.bool false) from rfl))
  ·obtain⟨g,o',e1,e2⟩:=zc9 n t b0 b (a.fmod b) (.pu (.int (a.fmod b))) hb0 (mJ a (by omega)) (by have:=zaR (a:=a) hb;omega);refine⟨g,o',?_,by rw[e2,zdF a b]⟩;rw[<-e1];refine zbg (zE (show _=some (PyData.bool true) from qR some (qR PyData.bool (qG (show(0:Int)<b by omega))))) ?_;rw[zv (zD ((zd rfl rfl).trans (jh hb)))];rfl
def wd{t b:Int}(hb:0<b)(hx:intBits b<=8999):ux [.int t,.int b]=some (fr (Rat.divInt t b)):=by
 have hb0:b≠0:=by omega
 obtain⟨l1,l2⟩:=zcg (t:=t) hb0 hx;have hg:=vQ (t:=t) hb0;have ea:(Int.gcd (if t<0 then -t else t) b:Int)=(Int.gcd t b:Int):=by
  split
  ·rw[Int.neg_gcd]
  ·rfl
 obtain⟨g,o',e1,e2⟩:=zc9 (b.natAbs+1) t b (if t<0 then -t else t) b .no (by split<;>omega) (by omega) (by omega);rw[ea] at e2;subst e2;refine zL rfl ?_;refine(zv (ρ':=[.pu (.int t),.pu (.int b),.pu (.int (if t<0 then -t else t)),.no,.no]) rfl).trans ((zv (ρ':=[.pu (.int t),.pu (.int b),.pu (.int (if t<0 then -t else t)),.pu (.int b),.no]) rfl).trans ((zv e1).trans ?_));refine zA (zda ((zd rfl rfl).trans (jd (by omega) l1)) ((zd rfl rfl).trans (jd (by omega) l1))) |>.trans ?_;have hc:(Int.gcd t b:Int)=(if b<0 then -(Int.gcd t b:Int) else (Int.gcd t b:Int)):=by rw[qo (by omega)]
 rw[zbY hb0 hc,zbO hb0 hc];rfl
def ix0(q:Rat):ixD (fr q) (.int 0)=some (.int q.num):=rfl
def ix1(q:Rat):ixD (fr q) (.int 1)=some (.int (q.den:Int)):=rfl
def vy(q r:Rat):0<(q.den:Int)*(r.den:Int):=Int.mul_pos (zdB q) (zdB r)
def zbN{q r:Rat}(hq:Bq 4000 q)(hr:Bq 4000 r):intBits ((q.den:Int)*(r.den:Int))<=8999:=qw (mW hq.d hr.d) (by decide)
def JG{q r:Rat}(hq:Bq 4000 q)(hr:Bq 4000 r):xf [fr q,fr r]=some (fr (q+r)):=by
 have⟨m1,m2,m3,m4,m5⟩:=YK hq hr;refine zL rfl (zA ?_);have e1:op2 yB (op2 ixD (gv 0) (cst (.int 0))) (op2 ixD (gv 1) (cst (.int 1))) [.pu (fr q),.pu (fr r)]=some (.int (q.num*(r.den:Int))):=(zd (ix0 q) (ix1 r)).trans (yV m1);have e2:op2 yB (op2 ixD (gv 1) (cst (.int 0))) (op2 ixD (gv 0) (cst (.int 1))) [.pu (fr q),.pu (fr r)]=some (.int (r.num*(q.den:Int))):=(zd (ix0 r) (ix1 q)).trans (yV m2)
 have e3:op2 yB (op2 ixD (gv 0) (cst (.int 1))) (op2 ixD (gv 1) (cst (.int 1))) [.pu (fr q),.pu (fr r)]=some (.int ((q.den:Int)*(r.den:Int))):=(zd (ix1 q) (ix1 r)).trans (yV m3);refine(zb (zj ((zd e1 e2).trans rfl) (zj e3 rfl))).trans ?_;rw[wd (vy q r) (zbN hq hr),zd4]
def uR{q r:Rat}(hq:Bq 4000 q)(hr:Bq 4000 r):yz [fr q,fr r]=some (fr (q*r)):=by
 have⟨m1,m2,m3,m4,m5⟩:=YK hq hr;refine zL rfl (zA ?_);have e1:op2 yB (op2 ixD (gv 0) (cst (.int 0))) (op2 ixD (gv 1) (cst (.int 0))) [.pu (fr q),.pu (fr r)]=some (.int (q.num*r.num)):=(zd (ix0 q) (ix0 r)).trans (yV m4);have e3:op2 yB (op2 ixD (gv 0) (cst (.int 1))) (op2 ixD (gv 1) (cst (.int 1))) [.pu (fr q),.pu (fr r)]=some (.int ((q.den:Int)*(r.den:Int))):=(zd (ix1 q) (ix1 r)).trans (yV m3)
 refine(zb (zj e1 (zj e3 rfl))).trans ?_;rw[wd (vy q r) (zbN hq hr),VU]
def ziA{q r:Rat}(hq:Bq 4000 q)(hr:Bq 4000 r):zbH [fr q,fr r]=some (fr (q*r)):=by
 have⟨m1,m2,m3,m4,m5⟩:=YK hq hr;refine zL rfl (zA ?_);have e1:op2 yB (op2 ixD (gv 0) (cst (.int 0))) (op2 ixD (gv 1) (cst (.int 0))) [.pu (fr q),.pu (fr r)]=some (.int (q.num*r.num)):=(zd (ix0 q) (ix0 r)).trans (yV m4);have e3:op2 yB (op2 ixD (gv 0) (cst (.int 1))) (op2 ixD (gv 1) (cst (.int 1))) [.pu (fr q),.pu (fr r)]=some (.int ((q.den:Int)*(r.den:Int))):=(zd (ix1 q) (ix1 r)).trans (yV m3)
 refine(zb (zj e1 (zj e3 rfl))).trans ?_;rw[WK (Int.ne_of_gt (vy q r)) (zbN hq hr),VU]
def Sk(k:Nat)(q:Rat):Prop:=InB (6 ^ k) (2 ^ (8*k)) q
def yq(k:Nat):0<6 ^ k:=Nat.pow_pos (by decide)
def Sk.mono{k l:Nat}{q:Rat}(h:Sk k q)(hl:k<=l):Sk l q:=by
 obtain⟨d,rfl⟩:=bw hl;have h1:=InB.up h (c:=6 ^ d) (yq d);unfold Sk;rw[gQ];refine h1.mono ?_;have e:2 ^ (8*(k+d))=2 ^ (8*k)*256 ^ d:=by
  rw[pd,gQ,pS 2 8 d]
 rw[e];exact gY _ (gX (by decide) d)
def Sk.mul{k l:Nat}{q r:Rat}(h:Sk k q)(h':Sk l r):Sk (k+l) (q*r):=by
 have:=InB.mul h h';unfold Sk;rw[gQ,pd,gQ];exact this
def Sk.sum{k n:Nat}{f:Q1x}(hn:n<=42)(h:∀i,i<n->Sk k (f i)):Sk (k+1) (sumTo n f):=by
 have h1:=xJ (f:=f) (yq k) n h;have h2:=InB.up h1 (c:=6) (by decide)
 unfold Sk;rw[Nat.pow_succ];refine h2.mono ?_;have e:2 ^ (8*(k+1))=2 ^ (8*k)*256:=by rw[pd,gQ]
 rw[e,mj n,Nat.mul_assoc];exact gY _ (by omega)
def Sk.add{k:Nat}{q r:Rat}(h:Sk k q)(h':Sk k r):Sk (k+1) (q+r):=by
 have h2:=InB.up (InB.add h h') (c:=6) (by decide);unfold Sk;rw[Nat.pow_succ];refine h2.mono ?_;have e:2 ^ (8*(k+1))=2 ^ (8*k)*256:=by rw[pd,gQ]
 rw[e];omega
def Sk.bq{k:Nat}{q:Rat}(h:Sk k q)(hk:k<=400):Bq 4000 q:=by
 refine InB.bq h ?_ (Sz.Ui (by omega));refine Sz.mono (n:=2 ^ (3*k)) ?_ (Sz.Ui (by omega));rw[pS];exact gX (by decide) k
theorem zhV{bd:PyData->Ro->Option Ro}{b:RFx}:∀{ds:LPd} {ρ0:Ro} (P:Nat->Ro->Prop),P 0 ρ0->
  (∀i d ρ,ds[i]?=some d->P i ρ->∃ρ1 ρ2,bd d ρ=some ρ1/\b ρ1=some (.nx ρ2)/\P (i+1) ρ2)->∃ρ',Zd bd b ds ρ0=some (.nx ρ')/\P ds.length ρ'
 |[],ρ0,P,h0,_=>⟨ρ0,rfl,h0⟩
 |d::r,ρ0,P,h0,h=>by
  have⟨ρ1,ρ2,e1,e2,p⟩:=h 0 d ρ0 rfl h0;obtain⟨ρ',e3,p'⟩:=zhV (ds:=r) (ρ0:=ρ2) (λi=>P (i+1)) p λi d ρ e q=>h (i+1) d ρ (by simpa using e) q
  refine⟨ρ',?_,p'⟩;show((bd d ρ0).bind λρ1=>match b ρ1 with |some (.nx ρ')=>Zd bd b r ρ'|r=>r)=_
  rw[e1,qp,e2];exact e3
def uS{it:RLx}{bd:PyData->Ro->Option Ro}{b:RFx}{ds:LPd}{ρ0:Ro}(P:Nat->Ro->Prop)(hi:it ρ0=some ds)(h0:P 0 ρ0)(h:∀i d ρ,ds[i]?=some d->P i ρ->∃ρ1 ρ2,bd d ρ=some ρ1/\b ρ1=some (.nx ρ2)/\P (i+1) ρ2):∃ρ',jS it bd b ρ0=some (.nx ρ')/\P ds.length ρ':=by
 have⟨ρ',e,p⟩:=zhV P h0 h;refine⟨ρ',?_,p⟩;unfold jS;rw[hi];exact e
def VH{g:RLx}{ρ:Ro}{n:Nat}(h:g ρ=some [.int n])(hn:n<4611686018427387904):y4 g ρ=some (jT 0 n):=by
 unfold y4;rw[h];show(if -(2 ^ 62)<=(n:Int)/\(n:Int)<2 ^ 62 then _ else _)=_
 rw[qj (by constructor<;>omega),kf]
def zff{n i:Nat}{d:PdX}(h:(jT 0 n)[i]?=some d):i<n/\d=.int (i:Int):=by
 have⟨h1,h2⟩:=VI h;rw[Int.zero_add] at h2;exact⟨h1,h2⟩
def wX{g:RLx}{bd:PyData->Ro->Option Ro}{b:RFx}{n:Nat}{ρ0:Ro}(P:Nat->Ro->Prop)(hg:g ρ0=some [.int n])(hn:n<4611686018427387904)(h0:P 0 ρ0)(h:∀i ρ,i<n->P i ρ->∃ρ1 ρ2,bd (.int (i:Int)) ρ=some ρ1/\b ρ1=some (.nx ρ2)/\P (i+1) ρ2):∃ρ',jS (y4 g) bd b ρ0=some (.nx ρ')/\P n ρ':=by
 have:=uS P (VH hg hn) h0 (bd:=bd) (b:=b) λi d ρ e p=>by
  obtain⟨h1,rfl⟩:=zff e;exact h i ρ h1 p
 rw[zdN] at this;exact this
def qd(t:Bool)(n:Nat)(f:Q1x):PyData:=match t with |true=>yr n f|false=>yp n f
def JQ(t:Bool)(n:Nat)(f:Q1x):yj [qd t n f]=some (.int n):=by
 cases t
 ·show some (PyData.int ((((List.range n).map λi=>fr (f i)).length:Nat):Int))=_
  simp
 ·show some (PyData.int ((((List.range n).map λi=>fr (f i)).length:Nat):Int))=_
  simp
def JM{d:Nat->PyData}{n i:Nat}(h:i<n):atI ((List.range n).map d) (i:Int)=some (d i):=Vf (WD.get_map h)
def uf{t:Bool}{n i:Nat}{f:Q1x}(h:i<n):ixD (qd t n f) (.int (i:Int))=some (fr (f i)):=by
 cases t<;>exact JM h
def ziy{n i:Nat}{f:Q2x}(h:i<n):ixD (yE n f) (.int (i:Int))=some (yr n (f i)):=JM h
def VR{n s i:Nat}{f:Q3x}(h:i<s):ixD (Ws n s f) (.int (i:Int))=some (yE n (f i)):=JM h
def UG{t u:Bool}{n k:Nat}{f g:Q1x}(hn:n<=42)(hk:k<=399)(hf:∀i,i<n->Bq 4000 (f i)/\Bq 4000 (g i)/\Sk k (f i*g i)):xp [qd t n f,qd u n g]=some (fr (sumTo n λi=>f i*g i)):=by
 refine zL rfl ?_;refine(zv (ρ':=[.pu (qd t n f),.pu (qd u n g),.pu (fr 0),.no]) rfl).trans ?_;obtain⟨ρ',e,o,rfl⟩:=wX (n:=n) (g:=aC (zg yj (aC (gv 0) a0)) a0) (bd:=bN 3)
  (b:=zX 2 (zg xf (aC (gv 2) (aC (zg yz (aC (op2 ixD (gv 0) (gv 3)) (aC (op2 ixD (gv 1) (gv 3)) a0))) a0))))
  (ρ0:=[.pu (qd t n f),.pu (qd u n g),.pu (fr 0),.no])
  (λi ρ=>∃o,ρ=[.pu (qd t n f),.pu (qd u n g),.pu (fr (sumTo i λi=>f i*g i)),o]) (zj ((zb rfl).trans (JQ t n f)) rfl) (by omega) ⟨.no,rfl⟩
  λi ρ hi ⟨o,e⟩=>by
   subst e;refine⟨_,_,rfl,zD ?_,.pu (.int (i:Int)),rfl⟩;refine(zb (zj rfl (zj ((zb (zj ((zd rfl rfl).trans (uf hi)) (zj ((zd rfl rfl).trans (uf hi)) rfl))).trans (uR (hf i hi).1 (hf i hi).2.1)) rfl))).trans ?_;exact JG ((Sk.sum (k:=k) (by omega) λj hj=>(hf j (by omega)).2.2).bq (by omega)) ((hf i hi).2.2.bq (by omega))
 exact(zv e).trans (zA rfl)
def vp(c:Int){m:Nat}(hm:0<m):∃r:Nat,r<m/\c.fmod (m:Int)=(r:Int):=by
 have h1:=mJ c (b:=(m:Int)) (by omega);have h2:=pH c (b:=(m:Int)) (by omega)
 exact⟨(c.fmod (m:Int)).toNat,by omega,by omega⟩
def xw{i:Int}{j:Nat}(h:0<j)(h2:j<1073741824):yS (.int i) (.int (j:Int))=some (.int (i.fdiv (j:Int))):=by
 refine jd (by omega) ?_;rw[kT];exact pM ((pU (by omega)).mpr (show j<2 ^ 30 by omega)) (by decide)
def zeC{j:Nat}(h:j<1073741824):intBits (j:Int)<=30:=jE (show j<2 ^ 30 by omega)
def Fq(q:Rat):Prop:=InB 6 32 q
def Fq.zero:Fq 0:=InB.zero (by decide)
def Fq.sk{q:Rat}(h:Fq q):Sk 1 q:=InB.mono h (by decide)
def Fq.small{t:Int}{b:Nat}(ht:t.natAbs<=5)(hb:b=1\/b=2\/b=3\/b=6):Fq (Rat.divInt t (b:Int)):=by
 have key:∀c:Nat,b*c=6->c<=6->0<b->Fq (Rat.divInt t (b:Int)):=λc hc h6 hb0=>by
  refine⟨by decide,t*(c:Int),?_,?_⟩
  ·have hb':(b:Rat)≠0:=ja hb0;rw[mE,ki,<-hc,mz,kh,kh]
   have:=g0 (a:=(t:Rat)) hb';rw[<-Rat.mul_assoc,this]
  ·rw[kg,kT];exact qw (ky ht h6) (by decide)
 rcases hb with rfl|rfl|rfl|rfl
 ·exact key 6 rfl (by decide) (by decide)
 ·exact key 3 rfl (by decide) (by decide)
 ·exact key 2 rfl (by decide) (by decide)
 ·exact key 1 rfl (by decide) (by decide)
def Ju(c:Int):∃q,xi [.int c]=some (fr q)/\Fq q:=by
 obtain⟨r,hr,er⟩:=vp c (m:=9) (by decide);obtain⟨u,hu,eu⟩:=vp (c.fdiv 9) (m:=5) (by decide);obtain⟨b,hb,eb⟩:∃b:Nat,(b=1\/b=2\/b=3\/b=6)/\atI [PyData.int 1,.int 1,.int 2,.int 1,.int 3] (u:Int)=some (.int (b:Int)):=by
  have:u=0\/u=1\/u=2\/u=3\/u=4:=by omega
  rcases this with rfl|rfl|rfl|rfl|rfl
  ·exact⟨1,.inl rfl,rfl⟩
  ·exact⟨1,.inl rfl,rfl⟩
  ·exact⟨2,.inr (.inl rfl),rfl⟩
  ·exact⟨1,.inl rfl,rfl⟩
  ·exact⟨3,.inr (.inr (.inl rfl)),rfl⟩
 refine⟨Rat.divInt ((r:Int) - 4) (b:Int),zL rfl (zA ?_),Fq.small (by omega) hb⟩;have e1:op2 Yt (op2 xF (gv 0) (cst (.int 9))) (cst (.int 4)) [.pu (.int c)]=some (.int ((r:Int) - 4)):=by
  rw[<-er];exact(zd ((zd rfl rfl).trans (jh (by decide))) rfl).trans rfl
 have e2:op2 xF (op2 yS (gv 0) (cst (.int 9))) (cst (.int 5)) [.pu (.int c)]=some (.int (u:Int)):=by
  rw[<-eu];exact(zd ((zd rfl rfl).trans (xw (j:=9) (by decide) (by decide))) rfl).trans (jh (by decide))
 refine(zb (zj e1 (zj ((zd rfl e2).trans eb) rfl))).trans ?_;refine wd (by omega) (qw (zeC (by omega)) (by decide))
def JF{i:Int}{j:Nat}(h:j<18446744073709551616):yB (.int i) (.int (j:Int))=some (.int (i*(j:Int))):=yV (IntMulOk.of_right (intBits_le_64 (by omega) (by omega)))
def zlS{j:Int}{i:Nat}(h:i<18446744073709551616):yB (.int (i:Int)) (.int j)=some (.int ((i:Int)*j)):=yV (IntMulOk.of_left (intBits_le_64 (by omega) (by omega)))
def za8(d:Nat->PyData){N lo m:Nat}(h:lo+m<=N):cut ((List.range N).map d) (some (lo:Int)) (some ((lo+m:Nat):Int))=(List.range m).map λi=>d (lo+i):=by
 unfold cut;rw[HT.zbJ,HT.zbJ,qe,qu,nc (show lo<=N by omega),nc h];refine gT λi=>?_
 rw[List.getElem?_take,List.getElem?_drop,qq,qq];by_cases hi:i<m
 ·rw[qj (by omega),kd (by omega),kd hi];rfl
 ·rw[qo (by omega),kJ (by simpa using km hi)];rfl
def zeO(d:Nat->PyData){N m:Nat}(h:m<=N):cut ((List.range N).map d) none (some (m:Int))=(List.range m).map d:=by
 unfold cut;rw[HT.zbJ,HT.zhf,qe,qu,nc h];refine gT λi=>?_
 rw[List.getElem?_take,List.getElem?_drop,qq,qq];by_cases hi:i<m
 ·rw[qj (by omega),kd (by omega),kd hi,nr]
 ·rw[qo (by omega),kJ (by simpa using km hi)];rfl
def Jb(d:Nat->PyData)(n:Nat):(List.range n).map d++[d n]=(List.range (n+1)).map d:=by
 rw[gP,qW];rfl
def list_range(qs:List Rat):qs.map fr=(List.range qs.length).map λi=>fr (qs.getD i 0):=by
 refine gT λi=>?_
 rw[qq,qq];by_cases hi:i<qs.length
 ·rw[kd hi,qk hi];simp[hi]
 ·rw[kJ (by omega),kJ (by simpa using km hi)];rfl
def JI{i:Nat}{f:RPx}{ρ:Ro}{ds:LPd}{d:PdX}(h1:gk i ρ=some ds)(h2:f ρ=some d)(h3:ds.length<16777216):apS i f ρ=some (.nx (ρ.set i (.ow (ds++[d])))):=by
 unfold apS;rw[h1,qp,h2,qp,qj h3]
def zkY{c:Ro->Option Bool}{f g:RPx}{ρ:Ro}(h:c ρ=some true):ifE c f g ρ=f ρ:=by
 unfold ifE;rw[h];rfl
def zlb{c:Ro->Option Bool}{f g:RPx}{ρ:Ro}(h:c ρ=some false):ifE c f g ρ=g ρ:=by
 unfold ifE;rw[h];rfl
def zeg{f:RPx}{l h:Ro->Option (Option Int)}{ρ:Ro}{ds:LPd}{lo hi:Option Int}(h1:f ρ=some (.list ds))(h2:l ρ=some lo)(h3:h ρ=some hi):slL f l h ρ=some (cut ds lo hi):=by
 unfold slL;rw[h1];show((l ρ).bind λlo=>(h ρ).bind λhi=>some (cut ds lo hi))=_
 rw[h2,qp,h3];rfl
def zc7{f:RPx}{ρ:Ro}{i:Int}(h:f ρ=some (.int i)):oS f ρ=some (some i):=by
 unfold oS;rw[h]
def zS{f:RLx}{ρ:Ro}{ds:LPd}(h:f ρ=some ds):yg f ρ=some (.list ds):=by
 unfold yg;rw[h];rfl
structure Mach(n s:Nat)(fi:Q1x)(st:Q3x)(la:Q1x)(k:Nat):Prop where
 fi:∀a,a<n->Sk k (fi a)
 st:∀g a b,g<s->a<n->b<n->Sk k (st g a b)
 la:∀a,a<n->Sk k (la a)
structure zaY(n s:Nat)(fi:Q1x)(st:Q3x)(la:Q1x):Prop where
 fi:∀a,a<n->Fq (fi a)
 st:∀g a b,g<s->a<n->b<n->Fq (st g a b)
 la:∀a,a<n->Fq (la a)
def zaY.mach{n s:Nat}{fi:Q1x}{st:Q3x}{la:Q1x}(h:zaY n s fi st la):Mach n s fi st la 1:=⟨λa ha=>(h.fi a ha).sk,λg a b hg ha hb=>(h.st g a b hg ha hb).sk,λa ha=>(h.la a ha).sk⟩
def UC(c:Int){n s:Nat}(hn:n<=42)(hs:s<=42):∃fi st la,xX [.int c,.int (n:Int),.int (s:Int)]=some (zq n s fi st la)/\zaY n s fi st la:=by
 have htot:n*(2+n*s)<=42*(2+42*42):=ky hn (Nat.add_le_add_left (ky hn hs) 2);have h0:vk ([.int c,.int (n:Int),.int (s:Int)].map Sl.pu++List.replicate (10 - 3) .no)=vk [.pu (.int c),.pu (.int (n:Int)),.pu (.int (s:Int)),.no,.no,.no,.no,.no,.no,.no]:=rfl
 obtain⟨ρ1,e1,c1,o1,qs,l1,q1,rfl⟩:=wX (n:=n*(2+n*s)) (g:=aC (op2 yB (gv 1) (op2 xD (cst (.int 2)) (op2 yB (gv 1) (gv 2)))) a0) (bd:=bN 4)
  (b:=sq (zX 0 (op2 xF (op2 xD (op2 yB (gv 0) (cst (.int 48271))) (cst (.int 29))) (cst (.int 2147483647))))
   (apS 3 (ifE (zG (op2 eqD (op2 xF (op2 yS (gv 0) (cst (.int 11))) (cst (.int 3))) (cst (.int 0)))) (xj (aC (cst (.int 0)) (aC (cst (.int 1)) a0))) (zg xi (aC (op2 yS (gv 0) (cst (.int 33))) a0)))))
  (ρ0:=[.pu (.int c),.pu (.int (n:Int)),.pu (.int (s:Int)),.ow [],.no,.no,.no,.no,.no,.no])
  (λi ρ=>∃(c':Int)(o:Sl)(qs:List Rat),qs.length=i/\(∀x∈qs,Fq x)/\ρ=[.pu (.int c'),.pu (.int (n:Int)),.pu (.int (s:Int)),.ow (qs.map fr),o,.no,.no,.no,.no,.no])
  (zj (by
   refine(zd rfl ((zd rfl ((zd rfl rfl).trans (JF (j:=s) (by omega)))).trans rfl)).trans ((zlS (i:=n) (by omega)).trans ?_);simp only [nj,pZ];rfl) rfl) (by omega) ⟨c,.no,[],rfl,(λx h=>by cases h),rfl⟩
  λi ρ hi ⟨c',o,qs,l,q,e⟩=>by
   subst e;have e1:zX 0 (op2 xF (op2 xD (op2 yB (gv 0) (cst (.int 48271))) (cst (.int 29))) (cst (.int 2147483647))) [.pu (.int c'),.pu (.int (n:Int)),.pu (.int (s:Int)),.ow (qs.map fr),.pu (.int (i:Int)),.no,.no,.no,.no,.no]=some (.nx [.pu (.int ((c'*48271+29).fmod 2147483647)),.pu (.int (n:Int)),.pu (.int (s:Int)),.ow (qs.map fr),.pu (.int (i:Int)),.no,.no,.no,.no,.no]):=zD ((zd ((zd ((zd rfl rfl).trans (JF (j:=48271) (by omega))) rfl).trans rfl) rfl).trans (jh (by decide)));generalize (c'*48271+29).fmod 2147483647=c2 at e1;obtain⟨x,hx,ex⟩:∃x,Fq x/\ifE (zG (op2 eqD (op2 xF (op2 yS (gv 0) (cst (.int 11))) (cst (.int 3))) (cst (.int 0)))) (xj (aC (cst (.int 0)) (aC (cst (.int 1)) a0))) (zg xi (aC (op2 yS (gv 0) (cst (.int 33))) a0)) [.pu (.int c2),.pu (.int (n:Int)),.pu (.int (s:Int)),.ow (qs.map fr),.pu (.int (i:Int)),.no,.no,.no,.no,.no]=some (fr x):=by
    have et:∀ρ:Ro,gv 0 ρ=some (.int c2)->zG (op2 eqD (op2 xF (op2 yS (gv 0) (cst (.int 11))) (cst (.int 3))) (cst (.int 0))) ρ=some (decide ((c2.fdiv 11).fmod 3=0)):=λρ h=>
     zE ((zd ((zd ((zd h rfl).trans (xw (j:=11) (by decide) (by decide))) rfl).trans (jh (by decide))) rfl).trans (J5 _ _))
    by_cases hz:(c2.fdiv 11).fmod 3=0
    ·refine⟨0,Fq.zero,?_⟩;rw[zkY ((et _ rfl).trans (by rw[qG hz]))];rfl
    ·obtain⟨x,ex,hx⟩:=Ju (c2.fdiv 33);refine⟨x,hx,?_⟩;rw[zlb ((et _ rfl).trans (by rw[qM hz]))];exact(zb (zj ((zd rfl rfl).trans (xw (j:=33) (by decide) (by decide))) rfl)).trans ex
   refine⟨_,_,rfl,(zv e1).trans (JI rfl ex (by rw[qe,l];omega)),c2,.pu (.int (i:Int)),qs++[x],by simp[l],λy hy=>?_,by rw[qW];rfl⟩;rcases qr.mp hy with h|h
   ·exact q y h
   ·have:y=x:=by simpa using h
    rw[this];exact hx
 have hQ:∀i,Fq (qs.getD i 0):=λi=>by
  by_cases hi:i<qs.length
  ·have:qs.getD i 0=qs[i]:=by simp[hi]
   rw[this];exact q1 _ (gy hi)
  ·have:qs.getD i 0=0:=by simp[km hi]
   rw[this];exact Fq.zero
 rw[list_range qs,l1] at e1;generalize hQe:(λi=>qs.getD i 0)=Q at e1;have hQ':∀i,Fq (Q i):=λi=>by rw[<-hQe];exact hQ i
 have e1':(List.map (λi=>fr (qs.getD i 0)) (List.range (n*(2+n*s))))=(List.range (n*(2+n*s))).map λi=>fr (Q i):=by
  rw[<-hQe]
 rw[e1'] at e1;have hfin:∀x,x<=s*n->2*n+x*n<=n*(2+n*s):=λx hx=>by
  have:x*n<=s*n*n:=qZ n hx;have e:n*(2+n*s)=2*n+s*n*n:=by
   rw[pd,mj n 2,mj n (n*s),mj n s]
  omega
 obtain⟨ρ2,e2,o2,o3,o4,o5,rfl⟩:=wX (n:=s) (g:=aC (gv 2) a0) (bd:=bN 6)
  (b:=sq (jc 7 (vq a0)) (sq (jS (y4 (aC (gv 1) a0)) (bN 8) (sq (zX 9 (op2 xD (op2 yB (cst (.int 2)) (gv 1)) (op2 yB (op2 xD (op2 yB (gv 6) (gv 1)) (gv 8)) (gv 1))))
   (apS 7 (zg zW (aC (yg (slL (gb 3) (oS (gv 9)) (oS (op2 xD (gv 9) (gv 1))))) a0))))) (apS 5 (zg zW (aC (gb 7) a0)))))
  (ρ0:=[.pu (.int c1),.pu (.int (n:Int)),.pu (.int (s:Int)),.ow ((List.range (n*(2+n*s))).map λi=>fr (Q i)),o1,.ow [],.no,.no,.no,.no])
  (λi ρ=>∃o2 o3 o4 o5,ρ=[.pu (.int c1),.pu (.int (n:Int)),.pu (.int (s:Int)),.ow ((List.range (n*(2+n*s))).map λi=>fr (Q i)),o1,.ow ((List.range i).map λg=>yE n λa b=>Q (2*n+(g*n+a)*n+b)),o2,o3,o4,o5])
  (zj rfl rfl) (by omega) ⟨.no,.no,.no,.no,rfl⟩
  λg ρ hg ⟨o2,o3,o4,o5,e⟩=>by
   subst e;obtain⟨ρ3,e3,o6,o7,rfl⟩:=wX (n:=n) (g:=aC (gv 1) a0) (bd:=bN 8)
    (b:=sq (zX 9 (op2 xD (op2 yB (cst (.int 2)) (gv 1)) (op2 yB (op2 xD (op2 yB (gv 6) (gv 1)) (gv 8)) (gv 1))))
     (apS 7 (zg zW (aC (yg (slL (gb 3) (oS (gv 9)) (oS (op2 xD (gv 9) (gv 1))))) a0))))
    (ρ0:=[.pu (.int c1),.pu (.int (n:Int)),.pu (.int (s:Int)),.ow ((List.range (n*(2+n*s))).map λi=>fr (Q i)),o1,.ow ((List.range g).map λg=>yE n λa b=>Q (2*n+(g*n+a)*n+b)),.pu (.int (g:Int)),.ow [],o4,o5])
    (λa ρ=>∃o6 o7,ρ=[.pu (.int c1),.pu (.int (n:Int)),.pu (.int (s:Int)),.ow ((List.range (n*(2+n*s))).map λi=>fr (Q i)),o1,.ow ((List.range g).map λg=>yE n λa b=>Q (2*n+(g*n+a)*n+b)),.pu (.int (g:Int)),.ow ((List.range a).map λa=>yr n λb=>Q (2*n+(g*n+a)*n+b)),o6,o7])
    (zj rfl rfl) (by omega) ⟨o4,o5,rfl⟩
    λa ρ ha ⟨o6,o7,e⟩=>by
     subst e;have hlt:2*n+(g*n+a)*n+n<=n*(2+n*s):=by
      have h1:g*n+a+1<=s*n:=by
       have h2:(g+1)*n<=s*n:=qZ n hg;have h3:(g+1)*n=g*n+n:=gH _ _
       omega
      have h2:=hfin (g*n+a+1) h1;have h3:(g*n+a+1)*n=(g*n+a)*n+n:=gH _ _
      omega
     have hgn:g*n+a<18446744073709551616:=by
      have:g*n<=42*42:=ky (by omega) hn;omega
     have e4:op2 xD (op2 yB (cst (.int 2)) (gv 1)) (op2 yB (op2 xD (op2 yB (gv 6) (gv 1)) (gv 8)) (gv 1)) [.pu (.int c1),.pu (.int (n:Int)),.pu (.int (s:Int)),.ow ((List.range (n*(2+n*s))).map λi=>fr (Q i)),o1,.ow ((List.range g).map λg=>yE n λa b=>Q (2*n+(g*n+a)*n+b)),.pu (.int (g:Int)),.ow ((List.range a).map λa=>yr n λb=>Q (2*n+(g*n+a)*n+b)),.pu (.int (a:Int)),o7]
       =some (.int ((2*n+(g*n+a)*n:Nat):Int)):=by
      have m1:op2 yB (cst (.int 2)) (gv 1) [.pu (.int c1),.pu (.int (n:Int)),.pu (.int (s:Int)),.ow ((List.range (n*(2+n*s))).map λi=>fr (Q i)),o1,.ow ((List.range g).map λg=>yE n λa b=>Q (2*n+(g*n+a)*n+b)),.pu (.int (g:Int)),.ow ((List.range a).map λa=>yr n λb=>Q (2*n+(g*n+a)*n+b)),.pu (.int (a:Int)),o7]=some (.int ((2*n:Nat):Int)):=by
       refine(zd rfl rfl).trans ((JF (j:=n) (by omega)).trans ?_);rw[nj];rfl
      have m2:op2 xD (op2 yB (gv 6) (gv 1)) (gv 8) [.pu (.int c1),.pu (.int (n:Int)),.pu (.int (s:Int)),.ow ((List.range (n*(2+n*s))).map λi=>fr (Q i)),o1,.ow ((List.range g).map λg=>yE n λa b=>Q (2*n+(g*n+a)*n+b)),.pu (.int (g:Int)),.ow ((List.range a).map λa=>yr n λb=>Q (2*n+(g*n+a)*n+b)),.pu (.int (a:Int)),o7]=some (.int ((g*n+a:Nat):Int)):=by
       refine(zd ((zd rfl rfl).trans (JF (j:=n) (by omega))) rfl).trans ?_;rw[pZ,nj];rfl
      refine(zd m1 ((zd m2 rfl).trans (JF (j:=n) (by omega)))).trans ?_;rw[<-Int.natCast_mul];show some (PyData.int _)=_
      rw[<-Int.natCast_add]
     refine⟨_,_,rfl,(zv (zD e4)).trans (JI (d:=yr n λb=>Q (2*n+(g*n+a)*n+b)) rfl ?_ (by rw[qe,qu];omega)),.pu (.int (a:Int)),.pu (.int ((2*n+(g*n+a)*n:Nat):Int)),?_⟩
     ·refine(zb (zj (zS (zeg rfl (zc7 rfl) (zc7 (i:=((2*n+(g*n+a)*n+n:Nat):Int)) ?_))) rfl)).trans ?_
      ·show some (PyData.int (((2*n+(g*n+a)*n:Nat):Int)+(n:Int)))=_
       rw[<-Int.natCast_add]
      ·rw[za8 _ hlt];rfl
     ·rw[<-Jb];rfl
   refine⟨_,_,rfl,(zv rfl).trans ((zv e3).trans (JI (d:=yE n λa b=>Q (2*n+(g*n+a)*n+b)) rfl rfl (by rw[qe,qu];omega))),.pu (.int (g:Int)),.ow ((List.range n).map λa=>yr n λb=>Q (2*n+(g*n+a)*n+b)),o6,o7,?_⟩
   ·rw[<-Jb];rfl
 refine⟨λa=>Q a,λg a b=>Q (2*n+(g*n+a)*n+b),λa=>Q (n+a),zL rfl ?_,⟨λa _=>hQ' _,λg a b _ _ _=>hQ' _,λa _=>hQ' _⟩⟩;rw[h0];refine(zv (ρ':=[.pu (.int c),.pu (.int (n:Int)),.pu (.int (s:Int)),.ow [],.no,.no,.no,.no,.no,.no]) rfl).trans ((zv e1).trans ((zv (ρ':=[.pu (.int c1),.pu (.int (n:Int)),.pu (.int (s:Int)),.ow ((List.range (n*(2+n*s))).map λi=>fr (Q i)),o1,.ow [],.no,.no,.no,.no]) rfl).trans ((zv e2).trans (zA ?_))));have h2n:2*n<=n*(2+n*s):=by have:=hfin 0 (kE _);omega
 refine(VL (x:=yr n λa=>Q a) (y:=Ws n s λg a b=>Q (2*n+(g*n+a)*n+b)) (z:=yr n λa=>Q (n+a)) ?_ ?_ ?_).trans rfl
 ·refine(zb (zj (zS (zeg rfl rfl (zc7 rfl))) rfl)).trans ?_;rw[zeO _ (by omega)];rfl
 ·rfl
 ·refine(zb (zj (zS (zeg rfl (zc7 rfl) (zc7 (i:=((n+n:Nat):Int)) ?_))) rfl)).trans ?_
  ·refine(zd rfl rfl).trans ((JF (j:=n) (by omega)).trans ?_);rw[show(2:Int)*(n:Int)=((n+n:Nat):Int) by omega]
  ·rw[za8 _ (by omega)];rfl
theorem JK{α β:Type}{h:α->Option β}{f:α->β}:∀{xs:List α},(∀x∈xs,h x=some (f x))->Jp h xs=some (xs.map f)
 |[],_=>rfl
 |x::r,hf=>by
  show(h x).bind (λy=>(Jp h r).map (y::·))=_
  rw[hf x ka,qp,JK λy hy=>hf y (qA _ hy)];rfl
theorem uq{α β γ:Type}{h:β->Option γ}{e:α->β}:∀{xs:List α},Jp h (xs.map e)=Jp (λx=>h (e x)) xs
 |[]=>rfl
 |x::r=>by
  show(h (e x)).bind (λy=>(Jp h (r.map e)).map (y::·))=_
  rw[uq];rfl
def zU{T:Nat}{F:LNt}{fi:RLx}{b:PyData->Ro->Option Ro}{fe:RPx}{ρ:Ro}{α:Type}{xs:List α}{e d:α->PyData}(h1:fi ρ=some (xs.map e))(hl:xs.length<=16777216)(h2:∀x∈xs,(b (e x) (compEnv T F ρ)).bind fe=some (d x)):zR T F fi b fe ρ=some (xs.map d):=by
 unfold zR;rw[h1,qp,qj (by rw[qe];exact hl),uq];exact JK h2
def jQ{T:Nat}{F:LNt}{g:RLx}{b:PyData->Ro->Option Ro}{fe:RPx}{ρ:Ro}{n:Nat}{d:Nat->PyData}(h1:g ρ=some [.int (n:Int)])(hl:n<=16777216)(h2:∀i,i<n->(b (.int (i:Int)) (compEnv T F ρ)).bind fe=some (d i)):zR T F (y4 g) b fe ρ=some ((List.range n).map d):=by
 refine zU (xs:=List.range n) (e:=λi:Nat=>PyData.int (0+(i:Int))) (VH h1 (by omega)) (by simpa using hl) λi hi=>?_
 rw[Int.zero_add];exact h2 i (qE.mp hi)
def v8{g:RPx}{ρ:Ro}{ds:LPd}(h:g ρ=some (.tuple ds)):yw g ρ=some ds:=by
 unfold yw;rw[h]
def jt{g:RPx}{ρ:Ro}{ds:LPd}(h:g ρ=some (.list ds)):yw g ρ=some ds:=by
 unfold yw;rw[h]
def zcO(c:Int){s m:Nat}(hs:0<s)(hm:m<=1000)(hs2:s<=1000):∃ws:List Nat,U3 [.int c,.int (s:Int),.int (m:Int)]=some (yt ws)/\ws.length<=m/\∀g∈ws,g<s:=by
 obtain⟨r,hr,er⟩:=vp c (m:=m+1) (by omega);obtain⟨ρ1,e1,c1,o1,ws,l1,q1,rfl⟩:=wX (n:=r) (g:=aC (op2 xF (gv 0) (op2 xD (gv 2) (cst (.int 1)))) a0) (bd:=bN 4)
  (b:=sq (zX 0 (op2 xF (op2 xD (op2 yB (gv 0) (cst (.int 48271))) (cst (.int 17))) (cst (.int 2147483647)))) (apS 3 (op2 xF (op2 yS (gv 0) (cst (.int 5))) (gv 1))))
  (ρ0:=[.pu (.int c),.pu (.int (s:Int)),.pu (.int (m:Int)),.ow [],.no])
  (λi ρ=>∃(c':Int)(o:Sl)(ws:LNt),ws.length=i/\(∀g∈ws,g<s)/\ρ=[.pu (.int c'),.pu (.int (s:Int)),.pu (.int (m:Int)),.ow (ws.map λ(g:Nat)=>PyData.int (g:Int)),o])
  (zj (by
   refine(zd rfl rfl).trans ((jh (show((m:Int)+1)≠0 by omega)).trans ?_);rw[<-er];rfl) rfl) (by omega) ⟨c,.no,[],rfl,(λx h=>by cases h),rfl⟩
  λi ρ hi ⟨c',o,ws,l,q,e⟩=>by
   subst e;have e1:zX 0 (op2 xF (op2 xD (op2 yB (gv 0) (cst (.int 48271))) (cst (.int 17))) (cst (.int 2147483647))) [.pu (.int c'),.pu (.int (s:Int)),.pu (.int (m:Int)),.ow (ws.map λ(g:Nat)=>PyData.int (g:Int)),.pu (.int (i:Int))]=some (.nx [.pu (.int ((c'*48271+17).fmod 2147483647)),.pu (.int (s:Int)),.pu (.int (m:Int)),.ow (ws.map λ(g:Nat)=>PyData.int (g:Int)),.pu (.int (i:Int))]):=zD ((zd ((zd ((zd rfl rfl).trans (JF (j:=48271) (by omega))) rfl).trans rfl) rfl).trans (jh (by decide)));generalize (c'*48271+17).fmod 2147483647=c2 at e1;obtain⟨u,hu,eu⟩:=vp (c2.fdiv 5) hs;have e2:op2 xF (op2 yS (gv 0) (cst (.int 5))) (gv 1) [.pu (.int c2),.pu (.int (s:Int)),.pu (.int (m:Int)),.ow (ws.map λ(g:Nat)=>PyData.int (g:Int)),.pu (.int (i:Int))]=some (.int (u:Int)):=by
    rw[<-eu];exact(zd ((zd rfl rfl).trans (xw (j:=5) (by decide) (by decide))) rfl).trans (jh (by omega))
   refine⟨_,_,rfl,(zv e1).trans (JI rfl e2 (by rw[qe,l];omega)),c2,.pu (.int (i:Int)),ws++[u],by simp[l],λy hy=>?_,by rw[qW];rfl⟩;rcases qr.mp hy with h|h
   ·exact q y h
   ·have:y=u:=by simpa using h
    rw[this];exact hu
 refine⟨ws,zL rfl ?_,by omega,q1⟩;exact(zv (ρ':=[.pu (.int c),.pu (.int (s:Int)),.pu (.int (m:Int)),.ow [],.no]) rfl).trans ((zv e1).trans (zA rfl))
def ZX{t:Bool}{n k l:Nat}{r:Q1x}{M:Q2x}(hn:n<=42)(hr:∀a,a<n->Sk k (r a))(hM:∀a b,a<n->b<n->Sk l (M a b))(hk:k+l<=399):xo [qd t n r,yE n M]=some ((List.range n).map λb=>fr (led n r M b)):=by
 obtain⟨ρ1,e1,o,rfl⟩:=wX (n:=n) (g:=aC (zg yj (aC (gv 0) a0)) a0) (bd:=bN 3)
  (b:=apS 2 (zg xp (aC (gv 0) (aC (yg (zR 1 [1,3] (y4 (aC (zg yj (aC (gv 0) a0)) a0)) (bN 0) (op2 ixD (op2 ixD (gv 1) (gv 0)) (gv 2)))) a0))))
  (ρ0:=[.pu (qd t n r),.pu (yE n M),.ow [],.no])
  (λi ρ=>∃o,ρ=[.pu (qd t n r),.pu (yE n M),.ow ((List.range i).map λb=>fr (led n r M b)),o]) (zj ((zb rfl).trans (JQ t n r)) rfl) (by omega) ⟨.no,rfl⟩
  λb ρ hb ⟨o,e⟩=>by
   subst e;refine⟨_,_,rfl,JI (d:=fr (led n r M b)) rfl ?_ (by rw[qe,qu];omega),.pu (.int (b:Int)),by rw[<-Jb];rfl⟩;refine(zb (xs:=[qd t n r,qd false n λa=>M a b]) (zj rfl (zj (zS (jQ (n:=n) (zj ((zb rfl).trans (JQ t n r)) rfl) (by omega) λa ha=>?_)) rfl))).trans (UG hn hk λa ha=>⟨(hr a ha).bq (by omega),(hM a b ha hb).bq (by omega),(hr a ha).mul (hM a b ha hb)⟩);exact(zd ((zd rfl rfl).trans (ziy ha)) rfl).trans (uf (t:=true) hb)
 refine vA rfl ?_;exact(zv (ρ':=[.pu (qd t n r),.pu (yE n M),.ow [],.no]) rfl).trans ((zv e1).trans (jH rfl))
theorem Ve{n s k k':Nat}{st:Q3x}(hn:n<=42)(hst:∀g a b,g<s->a<n->b<n->Sk k' (st g a b)):∀(ws:LNt)(k:Nat)(fi:Q1x),(∀a,a<n->Sk k (fi a))->(∀g∈ws,g<s)->∀a,a<n->Sk (k+ws.length*(k'+1)) (zN n st fi ws a)
 |[],k,fi,hf,_=>λa ha=>by
  rw[pY,Nat.zero_mul];exact hf a ha
 |g::ws,k,fi,hf,hg=>λa ha=>by
  have step:∀b,b<n->Sk (k+k'+1) (led n fi (st g) b):=λb hb=>Sk.sum hn λi hi=>(hf i hi).mul (hst g i b (hg g ka) hi hb)
  have r:=Ve (k:=k) hn hst ws (k+k'+1) (led n fi (st g)) step (λx hx=>hg x (qA _ hx)) a ha;refine Sk.mono r ?_;rw[qX,gH];omega
def jY{n s:Nat}{fi:Q1x}{st:Q3x}{la:Q1x}:ixD (zq n s fi st la) (.int 0)=some (yr n fi):=rfl
def jW{n s:Nat}{fi:Q1x}{st:Q3x}{la:Q1x}:ixD (zq n s fi st la) (.int 1)=some (Ws n s st):=rfl
def wB{n s:Nat}{fi:Q1x}{st:Q3x}{la:Q1x}:ixD (zq n s fi st la) (.int 2)=some (yr n la):=rfl
def za2{n:Nat}{st:Q3x}{fi:Q1x}{ws:LNt}{i g:Nat}(h:ws[i]?=some g):zN n st fi (ws.take (i+1))=led n (zN n st fi (ws.take i)) (st g):=by
 rw[gR,h];show zN n st fi (ws.take i++[g])=_
 rw[wO];rfl
def zeL{n s k k':Nat}{fi:Q1x}{st:Q3x}{la:Q1x}{ws:LNt}(hn:n<=42)(hfi:∀a,a<n->Sk k (fi a))(hst:∀g a b,g<s->a<n->b<n->Sk k' (st g a b))(hg:∀g∈ws,g<s)(hk:k+ws.length*(k'+1)<=399):uv [zq n s fi st la,yt ws]=some ((List.range n).map λa=>fr (zN n st fi ws a)):=by
 obtain⟨ρ1,e1,o,rfl⟩:=uS (ds:=ws.map λ(g:Nat)=>PyData.int (g:Int)) (it:=yw (gv 1)) (bd:=bN 3)
  (b:=frS 2 (jc 2 (y3 xo (aC (gv 2) (aC (op2 ixD (op2 ixD (gv 0) (cst (.int 1))) (gv 3)) a0)))))
  (ρ0:=[.pu (zq n s fi st la),.pu (yt ws),.ow ((List.range n).map λa=>fr (fi a)),.no])
  (λi ρ=>∃o,ρ=[.pu (zq n s fi st la),.pu (yt ws),.ow ((List.range n).map λa=>fr (zN n st fi (ws.take i) a)),o]) rfl ⟨.no,rfl⟩
  λi d ρ hd ⟨o,e⟩=>by
   subst e;rw[qq] at hd;obtain⟨g,hgi,rfl⟩:=map_some hd;have hgs:=hg g (qN hgi);have hlt:i<ws.length:=(qg.mp hgi).1
   refine⟨_,_,rfl,yI ?_,.pu (.int (g:Int)),rfl⟩;refine(yY (xs:=[qd false n (zN n st fi (ws.take i)),yE n (st g)]) (zj rfl (zj ((zd ((zd rfl rfl).trans jW) rfl).trans (VR hgs)) rfl))).trans ?_;rw[za2 hgi];refine ZX hn (λa ha=>Ve (k:=k) hn hst (ws.take i) k fi hfi (λx hx=>hg x (pf hx)) a ha) (λa b ha hb=>hst g a b hgs ha hb) ?_;rw[kD,nc (by omega)];have h1:(i+1)*(k'+1)<=ws.length*(k'+1):=qZ _ hlt;have h2:(i+1)*(k'+1)=i*(k'+1)+(k'+1):=gH _ _
   omega
 refine vA rfl ?_;refine(zv (ρ':=[.pu (zq n s fi st la),.pu (yt ws),.ow ((List.range n).map λa=>fr (fi a)),.no]) rfl).trans ((zv e1).trans (jH ?_));rw[qe,gx];rfl
def Uw{n s k k' l:Nat}{fi:Q1x}{st:Q3x}{la:Q1x}{ws:LNt}(hn:n<=42)(hfi:∀a,a<n->Sk k (fi a))(hst:∀g a b,g<s->a<n->b<n->Sk k' (st g a b))(hla:∀a,a<n->Sk l (la a))(hg:∀g∈ws,g<s)(hk:k+ws.length*(k'+1)+l<=399):yT [zq n s fi st la,yt ws]=some (fr (wt n st fi la ws)):=by
 have hrow:∀a,a<n->Sk (k+ws.length*(k'+1)) (zN n st fi ws a):=λa ha=>Ve (k:=k) hn hst ws k fi hfi hg a ha
 refine zL rfl (zA ?_);refine(zb (xs:=[qd false n (zN n st fi ws),qd true n la]) (zj (zS ((yY rfl).trans (zeL hn hfi hst hg (by omega)))) (zj ((zd rfl rfl).trans wB) rfl))).trans ?_;exact UG hn hk λa ha=>⟨(hrow a ha).bq (by omega),(hla a ha).bq (by omega),(hrow a ha).mul (hla a ha)⟩
def V0{f:Ro->Option Bool}{ρ:Ro}{b:Bool}(h:f ρ=some b):WT f ρ=some (!b):=by
 unfold WT;rw[h];rfl
def zi2{f g:Ro->Option Bool}{ρ:Ro}{b:Bool}(h:f ρ=some false)(h2:g ρ=some b):orT f g ρ=some b:=by
 unfold orT;rw[h,qp,qo qL];exact h2
def zl4{f g:RPx}{ρ:Ro}{d:PdX}(h:f ρ=some (.bool true))(h2:g ρ=some d):zgQ f g ρ=some d:=by
 unfold zgQ;rw[h];exact h2
def zma(q r:Rat):eqD (fr q) (fr r)=some (.bool (decide (q=r))):=by
 unfold eqD;rw[qj ⟨rfl,rfl⟩,ziI]
def zlT(q r:Rat):neD (fr q) (fr r)=some (.bool (!decide (q=r))):=by
 unfold neD;rw[qj ⟨rfl,rfl⟩,ziI]
def x9(n:Nat)(d:Nat->PyData):yj [.tuple ((List.range n).map d)]=some (.int (n:Int)):=by
 show some (PyData.int ((((List.range n).map d).length:Nat):Int))=_
 rw[qe,qu]
def wA(ns:List Int)(i:Nat):∃c:Int,xb [.list (ns.map PyData.int),.int (i:Int)]=some (.int c):=by
 by_cases h:i<ns.length
 ·refine⟨ns[i],zL rfl ?_⟩;refine za1 ((uF (zE (show _=some (PyData.bool true) from ?_))).trans (zA ?_))
  ·refine qR some (qR PyData.bool (qG ?_));rw[qe];omega
  ·refine(zd (x:=.list (ns.map PyData.int)) (y:=.int (i:Int)) rfl rfl).trans ?_;show atI (ns.map PyData.int) (i:Int)=_
   refine Vf ?_;rw[qq,qk h];rfl
 ·refine⟨0,zL rfl ?_⟩;refine(zv ((jZ (zE (show _=some (PyData.bool false) from ?_))).trans rfl)).trans (zA rfl);refine qR some (qR PyData.bool (qM ?_));rw[qe];omega
def zai{n:Nat}{f:Q1x}{c:Rat}(hn:n<=1000)(h:∀i,i<n->Bq 4000 (f i))(hc:Bq 4000 c):Jd [yr n f,fr c]=some (yr n λi=>f i*c):=by
 refine zL rfl (zA ?_);refine(zb (xs:=[.list ((List.range n).map λi=>fr (f i*c))]) (zj (zS (zU (xs:=List.range n) (e:=λi=>fr (f i)) (d:=λi=>fr (f i*c)) rfl (by simpa using qw hn (by decide)) λi hi=>?_)) rfl)).trans rfl;exact(zb (g:=aC (gv 0) (aC (gv 1) a0)) (ρ:=[.pu (fr (f i)),.pu (fr c)]) rfl).trans (ziA (h i (qE.mp hi)) hc)
def zmi{i:Nat}{f:RPx}{ρ:Ro}{ds es:LPd}(h1:gk i ρ=some ds)(h2:f ρ=some (.tuple es))(h3:ds.length+es.length<=16777216):exT i f ρ=some (.nx (ρ.set i (.ow (ds++es)))):=by
 unfold exT;rw[h1,qp,h2];show(if ds.length+es.length<=16777216 then _ else _)=_
 rw[qj h3]
def zly{it:RLx}{bd:PyData->Ro->Option Ro}{b:RFx}{n:Nat}{d:Nat->PyData}{ρ0:Ro}(P:Nat->Ro->Prop)(hi:it ρ0=some ((List.range n).map d))(h0:P 0 ρ0)(h:∀i ρ,i<n->P i ρ->∃ρ1 ρ2,bd (d i) ρ=some ρ1/\b ρ1=some (.nx ρ2)/\P (i+1) ρ2):∃ρ',jS it bd b ρ0=some (.nx ρ')/\P n ρ':=by
 have:=uS P hi h0 (bd:=bd) (b:=b) λi x ρ e p=>by
  rw[qq] at e;obtain⟨j,hj,rfl⟩:=map_some e;have hi:i<n:=by
   have:=(qg.mp hj).1;simpa using this
  rw[kd hi] at hj;cases hj;exact h i ρ hi p
 rw[qe,qu] at this;exact this
def Wg{n m s:Nat}{fi gi:Q1x}{st su:Q3x}{la lb:Q1x}:vD [zq n s fi st la,zq m s gi su lb]=some .none:=by
 refine zlQ (ρ:=[.pu (zq n s fi st la),.pu (zq m s gi su lb),.pu (.int (s:Int)),.pu (.int (s:Int))]) rfl ?_;refine(zv (zD ((zb (zj ((zd rfl rfl).trans jW) rfl)).trans (x9 s _)))).trans ((zv (zD ((zb (zj ((zd rfl rfl).trans jW) rfl)).trans (x9 s _)))).trans ?_);refine(jZ (zE ((zd rfl rfl).trans ((wI _ _).trans ?_)))).trans rfl;rw[qG rfl];rfl
def JT(d e:Nat->PyData)(n:Nat):Jr ((List.range n).map d) ((List.range n).map e)=(List.range n).map λi=>.tuple [d i,e i]:=by
 unfold Jr;rw[List.zip_map',kY];rfl
def zjN{g:RLx}{ρ:Ro}{xs ys:LPd}(h:g ρ=some [.tuple xs,.tuple ys]):Ue true true g ρ=some (Jr xs ys):=by
 unfold Ue;rw[h];rfl
theorem jC(f:Q1x)(a:Nat):∀m,sumTo (a+m) f=sumTo a f+sumTo m (λj=>f (a+j))
 |0=>by show sumTo a f=sumTo a f+0;grind
 |m+1=>by
  show sumTo (a+m) f+f (a+m)=sumTo a f+(sumTo m (λj=>f (a+j))+f (a+m))
  rw[jC f a m];grind
def Sk.den{k:Nat}{q:Rat}(h:Sk k q):q.den ∣ 6 ^ k:=InB.den h
def sz6{k:Nat}(hk:k<=1300):Sz (6 ^ k):=by
 refine Sz.mono (n:=2 ^ (3*k)) ?_ (Sz.Ui (by omega));rw[pS];exact gX (by decide) k
def sqD(t:Bool)(xs:LPd):PyData:=match t with |true=>.tuple xs|false=>.list xs
def zkH{g:RPx}{ρ:Ro}{t:Bool}{ds:LPd}(h:g ρ=some (sqD t ds)):yw g ρ=some ds:=by
 cases t
 ·exact jt h
 ·exact v8 h
def vz{t:Bool}{qs:List Rat}{M:Nat}(hM:0<M)(sM:Sz M)(h:∀q∈qs,q.den ∣ M):yk [sqD t (qs.map fr)]=some (.int (xK qs:Int)):=by
 obtain⟨ρ1,e1,o,rfl⟩:=uS (ds:=qs.map fr) (it:=yw (gv 0)) (bd:=bN 2)
  (b:=zX 1 (op2 yB (gv 1) (op2 yS (op2 ixD (gv 2) (cst (.int 1))) (zg yM (aC (gv 1) (aC (op2 ixD (gv 2) (cst (.int 1))) a0))))))
  (ρ0:=[.pu (sqD t (qs.map fr)),.pu (.int 1),.no]) (λi ρ=>∃o,ρ=[.pu (sqD t (qs.map fr)),.pu (.int (xK (qs.take i):Int)),o]) (zkH rfl) ⟨.no,rfl⟩
  λi d ρ hd ⟨o,e⟩=>by
   subst e;rw[qq] at hd;obtain⟨q,hq,rfl⟩:=map_some hd;have hdM:=h q (qN hq);have hL:xK (qs.take i) ∣ M:=VN _ λz hz=>h z (pf hz)
   have hd0:=ZS q;have bd:intBits (q.den:Int)<=4000:=sM.bits (gc hM hdM)
   have bL:intBits (xK (qs.take i):Int)<=4000:=sM.bits (gc hM hL);obtain⟨l1,_⟩:=zcg (t:=(xK (qs.take i):Int)) hd0 (qw bd (by decide));have hg:=vQ (t:=(xK (qs.take i):Int)) hd0
   refine⟨_,_,rfl,zD (d:=.int (xK (qs.take (i+1)):Int)) ?_,.pu (fr q),rfl⟩;refine(zd rfl ((zd ((zd rfl rfl).trans (ix1 q)) ((zb (zj rfl (zj ((zd rfl rfl).trans (ix1 q)) rfl))).trans (jX _ _))).trans (jd (by omega) l1))).trans ((yV (jf bL (intBits_fdiv_le bd))).trans ?_);rw[ziE,gR,hq];exact qR (λz:Nat=>some (PyData.int (z:Int))) (zg0 (qs.take i) q).symm
 refine zL rfl ?_;refine(zv (ρ':=[.pu (sqD t (qs.map fr)),.pu (.int 1),.no]) rfl).trans ((zv e1).trans (zA ?_));rw[qe,gx];rfl
def u7{t:Bool}{n:Nat}{f:Q1x}{B:Nat}(hn:n<=1000)(hB:0<B)(sB:Sz B)(hf:∀i,i<n->(f i).den ∣ B/\intBits (f i).num<=4000):yX [qd t n f,.int (B:Int)]=some ((List.range n).map λi=>.int (jx (f i) B)):=by
 refine vA rfl (jH ?_);refine zU (xs:=List.range n) (e:=λi=>fr (f i)) ?_ (by simpa using qw hn (by decide)) λi hi=>?_
 ·cases t
  ·exact jt rfl
  ·exact v8 rfl
 ·have hi:=qE.mp hi;have⟨hd,hb⟩:=hf i hi
  have bd:intBits ((f i).den:Int)<=4000:=sB.bits (gc hB hd);have lg:=W2 (ZS (f i)) bd
  rw[<-zhQ];show op2 yB (op2 ixD (gv 0) (cst (.int 0))) (op2 yS (gv 1) (op2 ixD (gv 0) (cst (.int 1)))) [.pu (fr (f i)),.pu (.int (B:Int))]=_
  exact(zd ((zd rfl rfl).trans (ix0 (f i))) ((zd rfl ((zd rfl rfl).trans (ix1 (f i)))).trans (jd (ZS _) (by omega)))).trans (yV (jf hb (intBits_fdiv_le (show intBits (B:Int)<=4000 from sB))))
def xg(n:Nat)(f:Z1x):List PyData:=(List.range n).map λi=>.int (f i)
def Zp(n:Nat)(f:Z1x):Jp zcY (xg n f)=some ((List.range n).map f):=by
 unfold xg;rw[uq];exact JK λ_ _=>rfl
def zfK{g:RLx}{ρ:Ro}{xs ys:LPd}(h:g ρ=some [.list xs,.list ys]):Ue false false g ρ=some (Jr xs ys):=by
 unfold Ue;rw[h];rfl
def JX{F:LNt}{ρ:Ro}{x y:PdX}{fe:RPx}:(b2 (bN 0) (bN 1) (.tuple [x,y]) (compEnv 2 F ρ)).bind fe=fe (.pu x::.pu y::F.map λj=>(ρ[j]?).getD .no):=rfl
def yy{F:LNt}{ρ:Ro}{x:PdX}{fe:RPx}:(bN 0 x (compEnv 1 F ρ)).bind fe=fe (.pu x::F.map λj=>(ρ[j]?).getD .no):=rfl
def zfV{n:Nat}{f g:Z1x}(ρ:Ro)(h0:ρ=[.pu (.list (xg n f)),.pu (.list (xg n g))]):Ue false false (aC (gv 0) (aC (gv 1) a0)) ρ=some ((List.range n).map λi=>.tuple [.int (f i),.int (g i)]):=by
 subst h0;exact(zfK rfl).trans (qR some (JT _ _ n))
def VA{n:Nat}{f g:Z1x}(hn:n<=1000)(h:∀i,i<n->intBits (f i)<=8000/\intBits (g i)<=8000):yd [.list (xg n f),.list (xg n g)]=some (.int (yo n λi=>f i*g i)):=by
 have hl:(List.range n).length<=16777216:=by rw[qu];omega
 have ec:zR 2 [] (Ue false false (aC (gv 0) (aC (gv 1) a0))) (b2 (bN 0) (bN 1)) (op2 yB (gv 0) (gv 1)) [.pu (.list (xg n f)),.pu (.list (xg n g))]=some (xg n λi=>f i*g i):=zU (xs:=List.range n) (e:=λi=>.tuple [.int (f i),.int (g i)]) (d:=λi=>.int (f i*g i)) (zfV _ rfl) hl λi hi=>by
   have hi:=qE.mp hi;exact JX.trans ((zd rfl rfl).trans (yV (jf (h i hi).1 (h i hi).2 (by omega))))
 have es:zhW [.list (xg n λi=>f i*g i)]=some (.int (yo n λi=>f i*g i)):=by
  show(Jp zcY (xg n λi=>f i*g i)).map (λns=>PyData.int ns.sum)=_
  rw[Zp,gO,WI]
 exact zL rfl (zA ((zb (zj (zS ec) rfl)).trans es))
def WH{n b:Nat}{f:Q2x}(hn:n<=1000)(hb:b<n):Jw [yE n f,.int (b:Int)]=some (yr n λa=>f a b):=by
 refine zL rfl (zA ?_);refine(zb (xs:=[.list ((List.range n).map λa=>fr (f a b))]) (zj (zS (zU (xs:=List.range n) (e:=λa=>yr n (f a)) rfl (by simpa using qw hn (by decide)) λa ha=>?_)) rfl)).trans rfl;show op2 ixD (gv 0) (gv 1) [.pu (yr n (f a)),.pu (.int (b:Int))]=_
 exact(zd rfl rfl).trans (uf (t:=true) hb)
def wM(n:Nat)(f:Q2x)(i:Nat):List Rat:=(List.range i).flatMap λa=>(List.range n).map (f a)
def Zk(n:Nat)(f:Q2x)(i:Nat):wM n f (i+1)=wM n f i++(List.range n).map (f i):=by
 unfold wM;rw[gP,pq];simp
def zge{n:Nat}{f:Q2x}{i:Nat}{q:Rat}(h:q∈wM n f i):∃a b,a<i/\b<n/\q=f a b:=by
 unfold wM at h;have⟨a,ha,h⟩:=pP.mp h;have⟨b,hb,e⟩:=qT.mp h;exact⟨a,b,qE.mp ha,qE.mp hb,e.symm⟩
def zg8{n:Nat}{f:Q2x}{i a b:Nat}(ha:a<i)(hb:b<n):f a b∈wM n f i:=by
 unfold wM;exact List.mem_flatMap.mpr ⟨a,qE.mpr ha,qT.mpr ⟨b,qE.mpr hb,rfl⟩⟩
theorem za3(n:Nat)(f:Q2x):∀i,(wM n f i).length=i*n
 |0=>by simp[wM]
 |i+1=>by
  rw[Zk,qy,za3 n f i,gH];simp
def x5(n:Nat)(f:Q2x):Nat:=xK (wM n f n)
def wsD(n:Nat)(f:Q2x):PyData:=.tuple [.list ((List.range n).map λb=>.list (xg n λa=>jx (f a b) (x5 n f))),.int (x5 n f:Int)]
def Vj{n M N:Nat}{f:Q2x}(hn:n<=42)(hM:0<M)(sM:Sz M)(sN:Sz N)(h:∀a b,a<n->b<n->InB M N (f a b)):vH [yE n f]=some (wsD n f)/\0<x5 n f/\x5 n f ∣ M/\∀a b,a<n->b<n->(f a b).den ∣ x5 n f:=by
 have hd:∀q∈wM n f n,q.den ∣ M:=λq hq=>by
  obtain⟨a,b,ha,hb,rfl⟩:=zge hq;exact(h a b ha hb).den
 have hp:0<x5 n f:=ZI _;have hv:x5 n f ∣ M:=VN _ hd
 have hdv:∀a b,a<n->b<n->(f a b).den ∣ x5 n f:=λa b ha hb=>zac _ _ (zg8 ha hb)
 refine⟨?_,hp,hv,hdv⟩;obtain⟨ρ1,e1,o,rfl⟩:=zly (n:=n) (d:=λa=>yr n (f a)) (it:=yw (gv 0)) (bd:=bN 2) (b:=exT 1 (gv 2)) (ρ0:=[.pu (yE n f),.ow [],.no,.no,.no])
  (λi ρ=>∃o,ρ=[.pu (yE n f),.ow ((wM n f i).map fr),o,.no,.no]) rfl ⟨.no,rfl⟩
  λi ρ hi ⟨o,e⟩=>by
   subst e;refine⟨_,_,rfl,zmi (es:=(List.range n).map λb=>fr (f i b)) rfl rfl ?_,.pu (yr n (f i)),?_⟩
   ·rw[qe,qe,qu,za3]
    have:i*n<=42*42:=ky (by omega) hn;omega
   ·rw[Zk,qW,kY];rfl
 refine zL rfl ?_;refine(zv (ρ':=[.pu (yE n f),.ow [],.no,.no,.no]) rfl).trans ((zv e1).trans ((zv (zD (d:=.int (x5 n f:Int)) ?_)).trans ((zv (yI (d:=(List.range n).map λb=>.list (xg n λa=>jx (f a b) (x5 n f))) ?_)).trans ?_)))
 ·show((yk [.list ((wM n f n).map fr)]).bind λr=>if zkm r=true then some r else none)=_
  rw[show yk [.list ((wM n f n).map fr)]=some (.int (x5 n f:Int)) from vz (t:=false) hM sM hd];rfl
 ·refine jQ (n:=n) (zj ((zb rfl).trans (x9 n _)) rfl) (by omega) λb hb=>?_
  refine zS (ρ:=[.pu (.int (b:Int)),.pu (yE n f),.pu (.int (x5 n f:Int))]) ((yY (zj ((zb rfl).trans (WH (by omega) hb)) rfl)).trans ?_);exact u7 (t:=true) (by omega) hp (Sz.mono (gc hM hv) sM) λa ha=>⟨hdv a b ha hb,((h a b ha hb).bq sM sN).n⟩
 ·exact zA (zda rfl rfl)
def YQ{q:Rat}{M B C:Nat}{t:Int}(h:InB M C q)(hB:B ∣ M)(e:(t:Rat)=q*(B:Rat)):t.natAbs<=C:=by
 have⟨x,ex,hx⟩:=h.ex;obtain⟨c,rfl⟩:=hB;have hc:0<c:=Nat.pos_of_mul_pos_left h.pos;have e1:(t:Rat)*(c:Rat)=(x:Rat):=by
  rw[e,<-ex,mz];grind
 have e2:t*(c:Int)=x:=by
  have:((t*(c:Int):Int):Rat)=(x:Rat):=by
   rw[ki,kh];exact e1
  exact Rat.intCast_inj.mp this
 have e3:t.natAbs*c=x.natAbs:=by
  rw[<-e2,kg];rfl
 have:t.natAbs<=t.natAbs*c:=nM _ hc;omega
def zgI{n:Nat}{r la:Q1x}{tops:Z1x}{Bt L:Nat}(ht:∀a,a<n->(tops a:Rat)=r a*(Bt:Rat))(hd:∀a,a<n->(la a).den ∣ L):((yo n λa=>tops a*jx (la a) L:Int):Rat)=sumTo n (λa=>r a*la a)*((Bt*L:Nat):Rat):=by
 rw[Jy];have e:sumTo n (λa=>r a*la a)*((Bt*L:Nat):Rat)=sumTo n λa=>r a*la a*((Bt*L:Nat):Rat):=(zM _ _ n).symm
 rw[e];refine zf n λa ha=>?_
 rw[ki,ht a ha,jF (hd a ha),mz];grind
def zgS{q:Rat}{t:Int}{B:Nat}(hB:0<B)(e:(t:Rat)=q*(B:Rat)):Rat.divInt t (B:Int)=q:=by
 rw[mE,kh,e]
 have:=ja hB;grind
end L2.Fu
namespace L2.Fu
open PySem WS WD
def zhM{h:LPx}{g:RLx}{ρ:Ro}{xs:LPd}{r:PdX}(h1:g ρ=some xs)(h2:h xs=some r)(h3:zkm r=true):ZZ h g ρ=some r:=by
 unfold ZZ;rw[h1,qp,h2,qp,qj h3]
def Wb{i:Int}{m:Nat}(hm:0<m):∃r:Nat,r<m/\xF (.int i) (.int (m:Int))=some (.int (r:Int)):=by
 have⟨r,hr,e⟩:=vp i hm;exact⟨r,hr,(jh (by omega)).trans (by rw[e])⟩
end L2.Fu
namespace L2.Fu
open PySem WS WD
open PySem.Builtin.Int (intBits)
theorem jP:∀n,sumTo n (λ_=>(0:Rat))=0
 |0=>rfl
 |n+1=>by
  show sumTo n (λ_=>(0:Rat))+0=0
  rw[jP n];grind
def ZP{n:Nat}{f:Q2x}(hn:n<=1000):ua [yE n f]=some (yE n λa b=>f b a):=by
 refine zL rfl (zA ?_);refine(zb (xs:=[.list ((List.range n).map λb=>yr n λa=>f a b)]) (zj (zS (jQ (n:=n) (zj ((zb rfl).trans (x9 n _)) rfl) (by omega) λb hb=>?_)) rfl)).trans rfl;exact yy.trans ((zb rfl).trans (WH hn hb))
def zbk{n s:Nat}{fi:Q1x}{st:Q3x}{la:Q1x}(hn:n<=1000)(hs:s<=1000):Vy [zq n s fi st la]=some (zq n s la (λg a b=>st g b a) fi):=by
 refine zL rfl (zA ?_);refine(VL ((zd rfl rfl).trans wB) ((zb (xs:=[.list ((List.range s).map λg=>yE n λa b=>st g b a)]) (zj (zS (zU (xs:=List.range s) (e:=λg=>yE n (st g)) (v8 ((zd rfl rfl).trans jW)) (by simpa using qw hs (by decide)) λg hg=>?_)) rfl)).trans rfl) ((zd rfl rfl).trans jY)).trans rfl;exact yy.trans ((zb rfl).trans (ZP hn))
def jn(n:Nat)(f g:Q1x):Nat->Rat:=λx=>if x<n then f x else g (x - n)
def zfc{n x:Nat}{f g:Q1x}(h:x<n):jn n f g x=f x:=qj h
def zcS{n x:Nat}{f g:Q1x}:jn n f g (n+x)=g x:=by
 unfold jn;rw[qo (by omega),show n+x - n=x by omega]
def Ww{α:Type}(n m:Nat)(d f g:Nat->α)(h1:∀i,i<n->f i=d i)(h2:∀i,i<m->g i=d (n+i)):(List.range n).map f++(List.range m).map g=(List.range (n+m)).map d:=by
 rw[List.range_add,qW,kY];congr 1
 ·exact kC λi hi=>h1 i (qE.mp hi)
 ·exact kC λi hi=>h2 i (qE.mp hi)
def wG{n m:Nat}{f g:Q1x}(h:n+m<=16777216):Jq (yr n f) (yr m g)=some (yr (n+m) (jn n f g)):=by
 show(if ((List.range n).map λi=>fr (f i)).length+((List.range m).map λi=>fr (g i)).length<=16777216 then some (PyData.tuple _) else none)=_
 rw[qj (by rw[qe,qe,qu,qu];exact h)];exact qR some (qR PyData.tuple (Ww n m (λi=>fr (jn n f g i)) _ _ (λi hi=>by rw[zfc hi]) λi hi=>by rw[zcS]))
theorem Vu(d:PdX):∀n,(List.replicate n [d]).flatten=(List.range n).map λ_=>d
 |0=>rfl
 |n+1=>by
  rw[List.replicate_succ',List.flatten_append,Vu d n,gP,qW];rfl
def Zm{n:Nat}(hn:n<=1000):uj [.int (n:Int)]=some (yr n λ_=>0):=by
 refine zL rfl (zA ?_);refine(zd (x:=.tuple [fr 0]) (y:=.int (n:Int)) rfl rfl).trans ?_;unfold zjr;dsimp only;rw[qj ⟨by simp,by omega,by omega,by simp;omega⟩,kf,Vu];rfl
def ZT{t u:Bool}{n M N M' N':Nat}{f g:Q1x}(hn:n<=42)(hM:0<M)(sM:Sz M)(sN:Sz N)(hM':0<M')(sM':Sz M')(sN':Sz N')(hf:∀i,i<n->InB M N (f i))(hg:∀i,i<n->InB M' N' (g i)):vW [qd t n f,qd u n g]=some (fr (sumTo n λi=>f i*g i)):=by
 have hd:∀(f:Q1x)(M N:Nat),(∀i,i<n->InB M N (f i))->∀q∈(List.range n).map f,q.den ∣ M:=λf M N hf q hq=>by
  obtain⟨a,ha,rfl⟩:=qT.mp hq;exact(hf a (qE.mp ha)).den
 have hB0:∀f:Nat->Rat,0<xK ((List.range n).map f):=λf=>ZI _
 have hB1:∀(f:Q1x)(M N:Nat),(∀i,i<n->InB M N (f i))->xK ((List.range n).map f) ∣ M:=λf M N hf=>VN _ (hd f M N hf)
 have hB2:∀(f:Q1x) a,a<n->(f a).den ∣ xK ((List.range n).map f):=λf a ha=>zac _ _ (qT.mpr ⟨a,qE.mpr ha,rfl⟩)
 have eb:∀(t:Bool)(f:Q1x)(M N:Nat),0<M->Sz M->(∀i,i<n->InB M N (f i))->yk [qd t n f]=some (.int (xK ((List.range n).map f):Int)):=λt f M N hM sM hf=>by
  rw[show qd t n f=sqD t (((List.range n).map f).map fr) by rw[kY];cases t<;>rfl];exact vz hM sM (hd f M N hf)
 have et:∀(t:Bool)(f:Q1x)(M N:Nat),0<M->Sz M->Sz N->(∀i,i<n->InB M N (f i))->yX [qd t n f,.int (xK ((List.range n).map f):Int)]=some (xg n λi=>jx (f i) (xK ((List.range n).map f))):=λt f M N hM sM sN hf=>
  u7 (t:=t) (n:=n) (f:=f) (by omega) (hB0 f) (Sz.mono (gc hM (hB1 f M N hf)) sM) λa ha=>⟨hB2 f a ha,((hf a ha).bq sM sN).n⟩
 have bt:∀(f:Q1x)(M N:Nat),Sz N->(∀i,i<n->InB M N (f i))->∀a,a<n->intBits (jx (f a) (xK ((List.range n).map f)))<=8000:=λf M N sN hf a ha=>
  qw (sN.bits (YQ (hf a ha) (hB1 f M N hf) (jF (hB2 f a ha)))) (by decide)
 have bB:∀(f:Q1x)(M N:Nat),0<M->Sz M->(∀i,i<n->InB M N (f i))->intBits (xK ((List.range n).map f):Int)<=4000:=λf M N hM sM hf=>sM.bits (gc hM (hB1 f M N hf))
 have es:=VA (n:=n) (f:=λa=>jx (f a) (xK ((List.range n).map f))) (g:=λa=>jx (g a) (xK ((List.range n).map g))) (by omega) λa ha=>⟨bt f M N sN hf a ha,bt g M' N' sN' hg a ha⟩
 refine zL rfl ?_;refine(zv (zD ((zb rfl).trans (eb t f M N hM sM hf)))).trans ((zv (zD ((zb rfl).trans (eb u g M' N' hM' sM' hg)))).trans ((zv (zD ((zb (zj (zS ((yY rfl).trans (et t f M N hM sM sN hf))) (zj (zS ((yY rfl).trans (et u g M' N' hM' sM' sN' hg))) rfl))).trans es))).trans (zA ?_)));refine(zb (zj rfl (zj ((zd rfl rfl).trans (yV (jf (bB f M N hM sM hf) (bB g M' N' hM' sM' hg)))) rfl))).trans ?_;have p1:=hB0 f;have p2:=hB0 g
 rw[WK (g9 (by omega) (by omega)) (qw (mW (bB f M N hM sM hf) (bB g M' N' hM' sM' hg)) (by decide))];have e:=zgI (r:=f) (la:=g) (tops:=λa=>jx (f a) (xK ((List.range n).map f))) (λa ha=>jF (hB2 f a ha)) (hB2 g);rw[<-Int.natCast_mul];exact qR some (qR fr (zgS (kH p1 p2) e))
def jnM(n:Nat)(f:Q2x)(c:Q2x)(g:Q2x):Nat->Nat->Rat:=λx=>if x<n then jn n (f x) (c x) else jn n (λ_=>0) (g (x - n))
def zjg{g:RLx}{ρ:Ro}{xs ys:LPd}(h:g ρ=some [.tuple xs,.list ys]):Ue true false g ρ=some (Jr xs ys):=by
 unfold Ue;rw[h];rfl
def zfz{f g:RLx}{ρ:Ro}{x y:LPd}(h1:f ρ=some x)(h2:g ρ=some y)(h3:x.length+y.length<=16777216):zgO f g ρ=some (x++y):=by
 unfold zgO;rw[h1,qp,h2,qp,qj h3]
def YR{n m:Nat}{f c g:Q2x}(hn:n<=42)(hm:m<=42):ud [yE n f,.list ((List.range n).map λa=>yr m (c a)),yE m g]=some (yE (n+m) (jnM n f c g)):=by
 have e1:zR 2 [] (Ue true false (aC (gv 0) (aC (gv 1) a0))) (b2 (bN 0) (bN 1)) (op2 Jq (gv 0) (gv 1)) [.pu (yE n f),.pu (.list ((List.range n).map λa=>yr m (c a))),.pu (yE m g),.no,.no]=some ((List.range n).map λa=>yr (n+m) (jn n (f a) (c a))):=zU (xs:=List.range n) (e:=λa=>.tuple [yr n (f a),yr m (c a)]) ((zjg rfl).trans (qR some (JT _ _ n))) (by rw[qu];omega) λa ha=>JX.trans ((zd rfl rfl).trans (wG (by omega)))
 have e2:∀o,zR 1 [0] (yw (gv 2)) (bN 0) (op2 Jq (zg uj (aC (zg yj (aC (gv 1) a0)) a0)) (gv 0)) [.pu (yE n f),.pu (.list ((List.range n).map λa=>yr m (c a))),.pu (yE m g),o,.no]=some ((List.range m).map λb=>yr (n+m) (jn n (λ_=>0) (g b))):=λo=>
  zU (xs:=List.range m) (e:=λb=>yr m (g b)) rfl (by rw[qu];omega) λb hb=>yy.trans ((zd ((zb (zj ((zb rfl).trans (x9 n _)) rfl)).trans (Zm (by omega))) rfl).trans (wG (by omega)))
 refine zL rfl ?_;refine(zv (yI e1)).trans ((zv (yI (e2 _))).trans (zA ?_));refine(zb (zj (zS (zfz rfl rfl (by rw[qe,qe,qu,qu];omega))) rfl)).trans ?_;refine qR some (qR PyData.tuple (Ww n m _ _ _ (λa ha=>?_) λb hb=>?_))
 ·unfold jnM;rw[qj ha]
 ·unfold jnM;rw[qo (by omega),show n+b - n=b by omega]
end L2.Fu
namespace L2.Fu
open PySem PySem.Spec PyProof.Rows
section
variable{X:Cx}
theorem za5:∀{xs:List V} {us:LVl} (k:Nat),Vals xs us->Vals (xs.take k) (us.take k)
 |_,_,0,_=>.nil
 |_,_,_+1,.nil=>.nil
 |_,_,k+1,.cons h q=>.cons h (za5 k q)
theorem zaM:∀{xs:List V} {us:LVl} (k:Nat),Vals xs us->Vals (xs.drop k) (us.drop k)
 |_,_,0,q=>q
 |_,_,_+1,.nil=>.nil
 |_,_,k+1,.cons _ q=>zaM k q
def zkq:V->List V->Hp->VK->Prop:=λx vs H Q=>∃l xs i y,x=.ref l/\vs=[.int i,y]/\H l=some (.lst xs)/\0<=i/\i<2 ^ 63/\xs.length<sizeLine/\Q .non (upd H l (.lst (xs.take i.toNat++y::xs.drop i.toNat)))
def zjo(its:LVl)(i:Int)(h:0<=i)(u:Value):(its.toArray.extract 0 (if i<0 then (i+((its.toArray.size:Nat):Int)).toNat else min i.toNat its.toArray.size)).push u++its.toArray.extract (if i<0 then (i+((its.toArray.size:Nat):Int)).toNat else min i.toNat its.toArray.size)=(its.take i.toNat++u::its.drop i.toNat).toArray:=by
 rw[qo (by omega)];apply Array.toList_inj.mp;rw[Array.toList_append,Array.toList_push,Array.toList_extract,Array.toList_extract,bg,bg,qF,Nat.sub_zero,List.drop_zero,gU];by_cases hh:i.toNat<=its.length
 ·rw[nc hh];have k:=nV (l:=its.drop i.toNat) (i:=its.length - i.toNat) (by rw[pQ];exact qf _);simp[k]
 ·rw[Nat.min_eq_right (by omega)];rw[nV (show its.length<=i.toNat by omega),List.drop_of_length_le (show its.length<=i.toNat by omega)];simp
def zg3:MtM X "list.insert" zkq:=by
 intro pins s σ H x vs v us Q I rx rv h;obtain⟨l,xs,i,y,rfl,rfl,hH,h1,h2,hz,q⟩:=h;cases rx;obtain⟨u,w,rfl,ru,rw'⟩:=rv.two;obtain⟨t,rfl⟩:=ru;have⟨z,its,n,r,hl,e⟩:=I.zbK hH;have hfit:¬(!Builtin.List.listFitsIndex i)=true:=by
  rw[fitsIndex_both (by omega) h2];exact qL
 have hsz:its.toArray.size<=sizeLine:=by rw[qF];omega
 refine mf F.slot_list_insert ⟨_,e,rfl⟩ F.entry_list_insert (F.args_list_insert_3 _ _ _) (AutoSeq1.list_insert_list_int_val_1 l its.toArray n i t w hfit hsz) ⟨e,?_⟩;refine⟨.non,_,I.lset (its':=its.take i.toNat++w::its.drop i.toNat) hH e (zjo its i h1 w) ((za5 _ r).append (.cons rw' (zaM _ r))) ?_,rfl,q⟩;rw[qy,qX,kD,pQ];omega
variable{e ei:Expr}{pos apos cpos p1:Pos}
theorem zbi{K:FRx}{H:Hp}:∀{xs:List V} {ds:LPd} (k:Nat),Reps K H xs ds->Reps K H (xs.take k) (ds.take k)
 |_,_,0,_=>.nil
 |_,_,_+1,.nil=>.nil
 |_,_,k+1,.cons h q=>.cons h (zbi k q)
theorem zaT{K:FRx}{H:Hp}:∀{xs:List V} {ds:LPd} (k:Nat),Reps K H xs ds->Reps K H (xs.drop k) (ds.drop k)
 |_,_,0,q=>q
 |_,_,_+1,.nil=>.nil
 |_,_,k+1,.cons _ q=>zaT k q
def inS(i:Nat)(fi f:RPx):RFx:=λρ=>(gk i ρ).bind λds=>match fi ρ with
 |some (.int k)=>(f ρ).bind λd=>if 0<=k/\k<9223372036854775808/\ds.length<16777216 then some (.nx (ρ.set i (.ow (ds.take k.toNat++d::ds.drop k.toNat)))) else none
 |_=>none
def zf8(i:Nat){x:Str}{fi f:RPx}(hi:FE X ei fi)(he:FE X e f)(hN:X.N[i]?=some x:=by rfl)(hv:Vis X.env.scope x:=by trivial)(hd:NDx x:=by decide)(hcd:NCx x:=by decide)(hbase:ABx X (.Name x p1) "insert":=by rfl)(hfew:FWx X cpos [ei,e]:=by rfl)(hline:(apos.endLine==cpos.line)=true:=by rfl)(hs:starEach [ei,e] X.env=(false,eval ei X.env)::starEach [e] X.env:=by rfl)(hs2:SEx X e []:=by rfl)(hpl:(backTo cpos (starEach [e] X.env)).any (·.1)=false:=by rfl)(hsw:swapsWith (.Call (.Attribute (.Name x p1) "insert" apos) [ei,e] [] cpos) none pos.line X.env=pure false:=by rfl):FS X (.Expr (.Call (.Attribute (.Name x p1) "insert" apos) [ei,e] [] cpos) pos) (inS i fi f):=by
 have⟨t,p,q⟩:=he;have⟨ti,pi,qi⟩:=hi;refine⟨_,uO (Vk kQ PySem.F.slot_list_insert PySem.F.type_list_insert zg3 (yv hN hv hd hcd) (yJ pi (yJ p xP hs2) hs) hbase hfew hline hs hpl) hsw,λH0 os0 D σ H os ρ r R e k=>?_⟩;have⟨ds,e1,e⟩:=bind_some e;split at e
 ·rename_i n e3;have⟨d,e2,e⟩:=bind_some e;split at e
  ·rename_i hl;obtain⟨hl1,hl2,hl⟩:=hl;cases e;have g:=wJ e1;have⟨a,xs,h1,h2,h3,h4⟩:=R.rel.ow i ds g
   refine⟨_,h1,.inl ⟨rfl,_,SqL.of h3⟩,qi σ H os ρ _ _ R.rel e3 λv H' s rv=>?_⟩;refine q σ H' os ρ _ _ (R.same s).rel e2 λv2 H2 s2 rv2=>?_
   cases rv;refine⟨a,xs,n,v2,rfl,rfl,s2 _ _ (s _ _ h3),hl1,hl2,by rw[h4.length];exact hl,?_⟩;refine k _ _ os (((R.same s).same s2).chg g h1 ((zbi _ ((h4.same (zm s os)).same (zm s2 os))).append (.cons rv2 (zaT _ ((h4.same (zm s os)).same (zm s2 os)))))) ?_;rw[yL h2];exact λp o h=>zm s2 os _ _ (zm s os _ _ h)
  ·cases e
 ·cases e
end
section
variable{X:Cx}{a b e:Expr}{f g:RPx}{pos p p2:Pos}
def zhC:PyData->PyData->Option (List PyData)
 | .list xs,.list ys=>if xs.length+ys.length<=16777216 then some (xs++ys) else none
 |_,_=>none
def zle(K:FRx):R2:=λx y H Q=>∃l b xs zs,x=.ref l/\y=.ref b/\SqL K H l xs/\SqL K H b zs/\xs.length+zs.length<=sizeLine/\∀p,H p=none->Q (.ref p) (upd H p (.lst (xs++zs)))
def zeK(l b:AdX)(us vs:Array Value)(n m:Nat)(so sp:Array (Option Value))(hz:us.size+vs.size<=sizeLine):Meets (Builtin.«list.__add__» ⟨[.ref l,.ref b],[]⟩) (λ_ R s=>s.heap.get? l=some { cls:=.type "list",dict:=none,data:=.seq us n,slots:=so }/\
   s.heap.get? b=some { cls:=.type "list",dict:=none,data:=.seq vs m,slots:=sp }/\
   R (.ok (.ret (Value.ref s.heap.objs.size))) { s with heap:=s.heap.push { cls:=.type "list",data:=.seq (us++vs) } }):=by
 refine .of_wp λprog w A R s h=>?_
 have⟨hp,g,d,tk,os⟩:=s;obtain⟨q1,q2,h⟩:=h;have f1:=nk;have f2:=AutoSeq1.sub_tuple_tuple
 have f3:=AutoSeq1.sub_list_list;have f4:=AutoSeq1.sub_tuple_list
 have f5:=AutoSeq1.sub_list_tuple;wp_walk using AutoSeq1.wpAny_loadPart' q1,AutoSeq1.wpAny_loadPart' q2;exact⟨_,rfl,h⟩
def zaD{h:Heap}{l:AdX}{its:Array Value}(pl:PlainL h l its):∃n sl,h.get? l=some { cls:=.type "list",dict:=none,data:=.seq its n,slots:=sl }:=by
 have⟨o,n,e,hc,hd,hs⟩:=pl;have⟨c,d,t,sl⟩:=o;dsimp only at hc hd hs;subst hc hd hs;exact⟨n,sl,e⟩
def zkQ:OpR X (binaryOp .Add) (zle X.K):=by
 intro pins s σ H x y v u Q I rx ry h;obtain⟨l,b,xs,zs,rfl,rfl,hH,hB,hz,q⟩:=h;cases rx;cases ry;have⟨its,r,pl,z⟩:=I.list hH;have⟨its2,r2,pl2,z2⟩:=I.list hB;have⟨n,sl,e⟩:=zaD pl;have⟨n2,sl2,e2⟩:=zaD pl2;have hl:=r.length;have hl2:=r2.length
 refine p6 ⟨_,e,rfl⟩ ⟨_,e2,rfl⟩ noFill_list_add seq_list_add F.slot_list_add F.entry_list_add (F.args_list_add_2 _ _) (zeK l b _ _ n n2 sl sl2 (by rw[qF,qF];omega)) ⟨e,e2,?_⟩;have ea:its.toArray++its2.toArray=(its++its2).toArray:=by simp
 rw[ea];exact⟨.ref _,_,I.lnew (t':=s.toks) (r.append r2) (by rw[qy];omega),rfl,q _ I.fresh⟩
def zjU{K:FRx}:R2L K (zle K) zhC:=by
 intro x y H os d e c Q al r1 r2 h k;unfold zhC at h;split at h
 ·split at h
  ·rename_i hc;cases h;obtain⟨l,xs,rfl,h1,q1⟩:=r1.lst;obtain⟨b,zs,rfl,h2,q2⟩:=r2.lst;refine⟨l,b,xs,zs,rfl,rfl,h1,h2,by rw[q1.length,q2.length];exact hc,λp hp=>?_⟩;have s:=ya hp (.lst (xs++zs));exact k p (xs++zs) _ hp s zH (jV hp (q1.append q2))
  ·cases h
 ·cases h
end
end L2.Fu
namespace L2
open PySem PySem.Spec PyProof.Rows
def zgi{prog:Program}{w:World}{A:Around}{t:Bool}(hh:A.handled=none)(it a:AdX)(hne:a≠it)(vs:Array Value):Draws prog w A it [it,a] vs.size (λi v=>vs[i]?=some v) (λi h=>y0 t h it a i/\y9 t h a vs) where
 live:=λ_ _ st=>by
  have⟨o,ho,_⟩:=st.1.obj;exact⟨o,ho⟩
 frame:=λ_ _ _ st hk=>⟨st.1.stay λo e=>hk it (by simp) o e,st.2.stay λo e=>hk a (by simp) o e⟩
 item:=λi s Q E hi st hQ=>by
  refine J4 st.1 st.2 (v:=vs[i]) (by simp[hi]) λh' d hs=>?_
  exact hQ _ h' s.toks (by simp[hi]) ⟨d,st.2.stay λo e=>hs.extBut _ _ hne e⟩ hs
 done:=λs Q E st hE=>Ub hh st.1 st.2 (by simp) hE
def zgN{prog:Program}{w:World}{A:Around}{t:Bool}(hh:A.handled=none)(it a:AdX)(vs:Array Value)(n:Nat)(hv:vs[n]?=none):Draws prog w A it [it,a] n (λ_ _=>False) (λi h=>i=n/\y0 t h it a n/\y9 t h a vs) where
 live:=λ_ _ st=>by
  have⟨o,ho,_⟩:=st.2.1.obj;exact⟨o,ho⟩
 frame:=λ_ _ _ st hk=>⟨st.1,st.2.1.stay λo e=>hk it (by simp) o e,st.2.2.stay λo e=>hk a (by simp) o e⟩
 item:=λi s Q E hi st hQ=>absurd st.1 (by omega)
 done:=λs Q E st hE=>Ub hh st.2.1 st.2.2 hv hE
abbrev en1(t:Bool)(h:Heap)(a:AdX):Heap:=h.push { cls:=.type (um t),data:=.fields #[.ref a,.int 0 0] }
abbrev en2(t:Bool)(h:Heap)(a:AdX):Heap:=(en1 t h a).push { cls:=.type "enumerate",data:=.fields #[.none,.bool false,.ref h.objs.size,rawInt 0,.none,.none] }
def zlp(t:Bool)(a:AdX)(vs:Array Value):Meets (Builtin.«enumerate.__new__» ⟨[.type "enumerate",.ref a],[]⟩) (λ_ R s=>y9 t s.heap a vs/\
   R (.ok (.ret (.ref (en1 t s.heap a).objs.size))) { s with heap:=en2 t s.heap a }):=.of_wp λprog w A R s h=>by
  have⟨hp,g,d,tk,os⟩:=s;obtain⟨c1,h⟩:=h;have hsub:=sub_enumerate;have q1:y9 t (Shared.heap ⟨hp,g,d,tk,os⟩) a vs:=c1
  wp_walk using JJ q1
  refine wpAny_stack_any λst=>qU ?_
  split
  ·rename_i c _ _ _ _ _;cases (c==Value.type "enumerate")<;>(wp_walk using JJ q1;exact⟨_,rfl,h⟩)
  ·wp_walk using JJ q1
   exact⟨_,rfl,h⟩
def zjy{prog:Program}{w:World}{A:Around}{E:VSx}{s:ShX}{t:Bool}{a:AdX}{vs:Array Value}{Q:VSx}(c:y9 t s.heap a vs)(h:∀h',IsEnum h' (s.heap.objs.size+1) s.heap.objs.size 0 .none->y0 t h' s.heap.objs.size a 0->
   (∀c o,s.heap.get? c=some o->h'.get? c=some o)->Q (.ref (s.heap.objs.size+1)) { s with heap:=h' }):wpAny (model prog w) A (call (.type "enumerate") [.ref a]) Q E s:=by
 refine callType_new F.called_enumerate (by decide) (F.typeCall_enumerate_1 _) (F.newCall_enumerate_1 _) (λobj=>F.args_object_init_2 obj _) F.entry_enumerate_new (zlp t a vs) ⟨c,?_⟩;have z1:(en1 t s.heap a).objs.size=s.heap.objs.size+1:=gw ..;have g2:(en2 t s.heap a).get? (en1 t s.heap a).objs.size=some _:=qJ _ rfl
 have g1:(en2 t s.heap a).get? s.heap.objs.size=some _:=qm _ (qJ _ rfl);show _/\_
 rw[z1] at g2 ⊢;exact⟨⟨_,g2,rfl⟩,h _ g2 (Y3 g1) λc o q=>qm _ (qm _ q)⟩
def Ite(K:FRx)(t:Bool)(a:AdX):It:=⟨λi H=>∃xs x,SqB K t H a xs/\xs[i]?=some x,
  λi H v H'=>∃p,v=.ref p/\H p=none/\∀xs x,SqB K t H a xs->xs[i]?=some x->H'=upd H p (.tup [.int (i:Int),x]),
  λi H=>∃xs,SqB K t H a xs/\xs.length<=i⟩
structure znZ(t:Bool)(e it a:AdX)(i:Nat)(h:Heap):Prop where
 en:∃old,IsEnum h e it (i:Int) old
 dr:y0 t h it a i
def zgd{P:Program}{w:World}{K:FRx}{es:List Expr}{kk:Nat}{tp:Pos}{t:Bool}{e it a:AdX}(hei:e≠it)(hae:a≠e)(hai:a≠it):Turn P w K (.Tuple es kk tp) (Ite K t a) [e,it] e (λi h=>znZ t e it a i h) where
 mem:=by simp
 obj:=λi h S c hc=>by
  simp only [qx,k4,mD] at hc;rcases hc with rfl|rfl
  ·have⟨old,q⟩:=S.en;exact⟨_,q,λv q=>by cases q⟩
  ·exact S.dr.obj
 keep:=λi h h' S k=>by
  have⟨old,q⟩:=S.en;exact⟨⟨old,k e (by simp) _ q⟩,S.dr.stay λo q=>k it (by simp) o q⟩
 item:=λX hp hw hK hc i pins s σ H E I hf S go=>by
  subst hp hw hK;have⟨xs,x,h1,hx⟩:=go;have⟨us,ru,c1⟩:=I.sqB h1;have⟨u,eu,hu⟩:=wY ru hx;have⟨old,he⟩:=S.en;have hlt:i<us.toArray.size:=(Array.getElem?_eq_some_iff.mp eu).1;refine wpAny_pyNext_enum_itemD (zgi (t:=t) (A:=X.A.in1) (I.ok.hd hc) it a hai us.toArray) he ⟨S.dr,c1⟩ hlt hei (by simp[hei,gG hae]) λx' h' tk hx' q1 q2 q3 q4 q5=>⟨_,rfl,?_⟩
  rw[eu] at hx';cases hx';refine wpAny_letOwnedTupleGo_enum q1 λh'' z2 hs=>?_
  have ne1:s.heap.objs.size≠e:=nt (qO he);have ne2:s.heap.objs.size≠it:=by have⟨o,q,_⟩:=S.dr.obj;exact nt (qO q)
  have I1:Inv X pins σ H { s with heap:=h'',toks:=tk+1 }:=I.moved (ch:=[e,it]) (λc hc'=>hf c hc') λc o hc' q=>by
   simp only [qx,k4,mD,not_or] at hc';exact hs.extBut _ _ hc'.1 (q5 c o hc'.1 hc'.2 q)
  have fT:Jh X pins H s.heap.objs.size:=I.zb4 (qf _) (I.hok.fresh (qf _));have pT:=hs.extBut _ _ ne1 q3
  have I2:Inv X pins σ (upd H s.heap.objs.size (.tup [.int (i:Int),x])) { s with heap:=h'',toks:=tk+1 }:=by
   refine I1.adopt fT ⟨by show 2<=sizeLine;decide,[.int (i:Int) tk,u],.cons ⟨_,rfl⟩ (.cons hu .nil),?_⟩;exact⟨_,pT,rfl,_,rfl⟩
  refine⟨.ref s.heap.objs.size,_,I2,rfl,⟨_,rfl,fT.1,λxs' x' g1 ex=>?_⟩,?_,λc hc'=>?_⟩
  ·rw[I.zb9 g1 h1] at ex;rw[hx] at ex;cases ex;rfl
  ·exact⟨⟨_,by have:=z2;rw[show((i+1:Nat):Int)=(i:Int)+1 from rfl];exact this⟩,q2.1.stay λo q=>hs.extBut _ _ (gG hei) q⟩
  ·have ne:c≠s.heap.objs.size:=by
    simp only [qx,k4,mD] at hc';rcases hc' with rfl|rfl
    ·exact ne1.symm
    ·exact ne2.symm
   rw[zV ne];exact(hf c hc').1
 done:=λX hp hw hK hc i pins s σ H E I hf S st=>by
  subst hp hw hK;have⟨xs,h1,hend⟩:=st;have⟨us,ru,c1⟩:=I.sqB h1;have l1:=ru.length;have⟨old,he⟩:=S.en
  refine wpAny_pyNext_enum_endD (zgN (t:=t) (A:=X.A.in1) (I.ok.hd hc) it a us.toArray i (by simp;omega)) he ⟨rfl,S.dr,c1⟩ λh' q=>⟨rfl,?_⟩
  exact I.moved (t':=s.toks) (ch:=[it]) (λc hc'=>hf c (by simp at hc';simp[hc'])) λc o hc' e=>q c o (by simpa using hc') e
 self:=λA i s Q E S q=>by
  have⟨old,he⟩:=S.en;exact wpAny_pyIter_enum he q
def zb6:bootBuiltins "enumerate"=some (.type "enumerate"):=by decide+kernel
def znu(K:FRx)(t:Bool)(ta:TA):TI:=λσ H R=>ta σ H λvs H1=>∃a,vs=[.ref a]/\(∃xs,SqB K t H1 a xs)/\R (Ite K t a) H1
def zjJ{X:Cx}{es:List Expr}{kk:Nat}{tp:Pos}(t:Bool){a:Expr}{ta:TA}{p pos:Pos}(hg:Gl X "enumerate")(hm:X.mg "enumerate"=none)(ha:PA X [a] ta)(hs:starEach [a] X.env=[(false,eval a X.env)]:=by rfl):PI X (.Tuple es kk tp) (.Call (.Name "enumerate" p) [a] [] pos) (znu X.K t ta):=by
 intro pins s σ H R I h;refine Call_ (UT I hg hm zb6 (gE (thn (ha pos pins s σ H _ I h) λus s1 ⟨vs,H1,I1,r1,q1⟩=>?_) (by rw[hs];rfl) (by rfl)));have⟨a',e,⟨xs,h1⟩,q⟩:=q1;subst e;obtain⟨u,rfl,ru⟩:=vals1 r1;cases (show u=Value.ref a' from ru);have⟨its,_,c1⟩:=I1.sqB h1;refine zjy c1 λh' S d hk=>?_
 have I2:Inv X pins σ H1 { s1 with heap:=h',toks:=s1.toks }:=I1.kept hk;refine wpAny_pyIter_enum S ?_;have lt:=c1.lt
 refine⟨_,_,_,_,H1,rfl,I2,zgd (t:=t) (e:=s1.heap.objs.size+1) (it:=s1.heap.objs.size) (a:=a') (Nat.succ_ne_self _) (k6 (mH lt)) (k6 lt),⟨⟨_,S⟩,d⟩,λc hc=>?_,q⟩;simp only [qx,k4,mD] at hc;have ge:s1.heap.objs.size<=c:=by
  rcases hc with rfl|rfl
  ·exact ml _ 1
  ·exact qf _
 exact I1.zb4 ge (I1.hok.fresh ge)
end L2
namespace L2.Fu
open PySem PySem.Spec PyProof.Rows
def W9(xs:LPd):List PyData:=xs.mapIdx λi d=>.tuple [.int (i:Int),d]
def zgH{xs:LPd}{i:Nat}{d:PdX}(h:(W9 xs)[i]?=some d):∃x,xs[i]?=some x/\d=.tuple [.int (i:Int),x]:=by
 unfold W9 at h;rw[List.getElem?_mapIdx] at h;have⟨z,e1,e2⟩:=map_some h;exact⟨z,e1,e2.symm⟩
def zeN{K:FRx}{G G0:Hp}{t:Bool}{a:AdX}{xs:List V}{ds:LPd}(h1:SqB K t G a xs)(r1:Reps K G0 xs ds):Walks K G G0 (Ite K t a) (W9 ds):=by
 intro H1 os1 al s s0;have k1:SqB K t H1 a xs:=s.sqB h1;refine⟨λi d hd=>?_,?_⟩
 ·obtain⟨d1,g1,rfl⟩:=zgH hd;have⟨v1,e1,q1⟩:=r1.getD g1;refine⟨⟨xs,v1,k1,e1⟩,λx H2 hy=>?_⟩;obtain⟨p,rfl,hp,hy⟩:=hy;have e:=hy xs v1 k1 e1;subst e;have s2:=ya hp (.tup [.int (i:Int),v1])
  refine⟨s2,.tup (SqT.of ?_) (.cons (.int _) (.cons ((q1.same s0).same (zm s2 os1)) .nil))⟩;rw[zw (al.new hp)];exact zH
 ·refine⟨xs,k1,?_⟩;rw[r1.length];simp[W9]
def zfo(t:Bool)(g:RLx):RLx:=λρ=>match g ρ with
 |some [x]=>match kindOf x with
  |some (k,xs)=>if k=t then some (W9 xs) else none
  |_=>none
 |_=>none
end L2.Fu
namespace L2
open PySem PySem.Spec PyProof.Rows
theorem zdY{prog:Program}{w:World}{A:Around}{R:Result->Shared->Prop}{s:ShX}{elt target iter c:Expr}{scope:Scope}{pos:Pos}{it acc:Value}{env:Env}(I:Nat->Shared->Prop)(turn:∀n s,I n s->wpAny (model prog w) A (pyNext it) (λr t1=>match r with
   |none=>R (.ok .next) t1
   |some v=>wpAny (model prog w) A (letOwnedTupleGo target it v) (λ_ t2=>wpAny (model prog w) A (assign target env v) (λ_ t3=>wpAny (model prog w) A (isTrue c env (eval c env)) (λok t31=>
     if ok=true then wpAny (model prog w) A (eval elt env) (λx t4=>wpAny (model prog w) A (call (.builtin "list.append") [acc,x]) (λ_ t5=>∃m,m<n/\I m t5) (λ_ _=>False) t4) (λ_ _=>False) t31
     else ∃m,m<n/\I m t31) (λ_ _=>False) t3) (λ_ _=>False) t2) (λ_ _=>False) t1) (λ_ _=>False) s)(n:Nat)(h:I n s):codeAny (model prog w) A (.compLoop (.ListComp elt [⟨target,iter,[c],0⟩] scope pos) 0 it acc env) R s:=by
 refine codeAny_loop rfl I (λn s hI=>?_) n h;show wpAny _ _ ((compTurn (.ListComp elt [⟨target,iter,[c],0⟩] scope pos) 0 it acc env).onRaise (λx=>do noteFrame x env;theTreesLotGoes x)) _ _ s
 refine wpAny_noted ?_;rw[compTurn_list];refine qt (nY (qt (gu (turn n s hI) (λr t1 h1=>?_) λ_ _ z=>z.elim)));cases r with
 |none=>exact qU h1
 |some v=>
  refine qt (gu h1 (λ_ t2 h2=>?_) λ_ _ z=>z.elim);refine qt (gu h2 (λ_ t3 h3=>?_) λ_ _ z=>z.elim);refine qt ?_;rw[ni];refine qt ?_;rw[qj rfl];refine qt (gu h3 (λok t31 h31=>?_) λ_ _ z=>z.elim);refine qU ?_;dsimp only;rw[pj];refine qU ?_;cases ok with
  |true=>
   rw[qj rfl] at h31 ⊢;exact qt (qt (gu h31 (λx t4 h4=>qt (gu h4 (λ_ t5 h5=>qU (qU ⟨rfl,h5⟩)) λ_ _ z=>z.elim)) λ_ _ z=>z.elim))
  |false=>
   rw[qo qL] at h31 ⊢;exact qU ⟨rfl,h31⟩
def zfg(T:Nat)(F:LNt)(g:TG)(tc:TT)(te:TE)(k:Addr->Hp->Prop)(σ:St)(H1:Hp)(D:AdX)(J:It):Prop:=∃W:Nat->Nat->St->Hp->Prop,(∃m,W 0 m (UY T F σ) (upd H1 D (.lst [])))/\∀i m σ' H',W i m σ' H'->
  (J.stop i H'/\k D H')\/(J.go i H'/\∃N:St->Hp->Prop,(∀σ2 H2,N σ2 H2->∃m',m'<m/\W (i+1) m' σ2 H2)/\
   ∀x H2,J.yld i H' x H2->g x σ' H2 λσ2 H3=>tc σ2 H3 λok H31=>if ok=true then te σ2 H31 λv H4=>∃xs,H4 D=some (.lst xs)/\xs.length<sizeLine/\N σ2 (upd H4 D (.lst (xs++[v]))) else N σ2 H31)
def zcb(T:Nat)(F:LNt)(wi:TI)(g:TG)(tc:TT)(te:TE)(k:Addr->Hp->Prop):St->Hp->Prop:=λσ H=>wi σ H λJ H1=>∀D,H1 D=none->zfg T F g tc te k σ H1 D J
section
variable{X:Cx}{elt tg iter c:Expr}{scope:Scope}{pos:Pos}{Ts:LSr}{F:LNt}{wi:TI}{g:TG}{tc:TT}{te:TE}
def Zr{cl:LSA}{use:Option (Value->Sem Unit)}{Q:VSx}{pins:PNx}{s:ShX}{σ:St}{H:Hp}{k:Addr->Hp->Prop}(hc:X.calm=true)(hi:PI X tg iter wi)(S:yc X scope)(hF:∀j∈F,∃x,X.N[j]?=some x/\scope.names.lookup x=some .free)(hg:∀cl C ex s H,PG (z9 X (Ts++F.map λj=>X.N.getD j "") scope cl C ex s H) tg g)(he:∀cl C ex s H,PE (z9 X (Ts++F.map λj=>X.N.getD j "") scope cl C ex s H) elt te)(ht:∀cl C ex s H,PT (z9 X (Ts++F.map λj=>X.N.getD j "") scope cl C ex s H) c tc)(ko:Ux scope X.env cl)(I:Inv X pins σ H s)(h:zcb Ts.length F wi g tc te k σ H)(fin:∀(s':ShX)(H':Hp)(D C:AdX)(m:Str->Option Value),Inv X pins σ H' s'->Jh X pins H' C->s'.heap.Ns C m->k D H'->compPost (model X.prog X.w) X.A X.xe use Q (.ref D) C (.ok .next) s'):wpAny (model X.prog X.w) X.A (eval iter X.env) (λx s₁=>wpAny (model X.prog X.w) X.A (pyIter x) (λit s₂=>wpAny (model X.prog X.w) X.A (newList []) (λacc s₃=>
   wpAny (model X.prog X.w) X.A (newFunctionEnv scope X.env.globals cl [] X.env.qual none .none (some X.env)) (λcenv s₄=>
    codeAny (model X.prog X.w) X.A (.compStart (.ListComp elt [⟨tg,iter,[c],0⟩] scope pos) 0 it acc { cenv with scope:=relabel scope X.env }) (compPost (model X.prog X.w) X.A X.xe use Q acc cenv.locals) s₄) X.xe s₃) X.xe s₂) X.xe s₁) X.xe s:=by
 refine thn (hi pins s σ H _ I h) λv s1 h1=>thn h1 λitv s2 h2=>?_
 obtain⟨it,fp,tn,J,H2,rfl,I2,T,st2,f2,hW⟩:=h2;refine nX (wpAny_newFunctionEnv S.nocell (by intro y hy;simp at hy) (λh₁ hns₁ hsb₁=>?_) S.kind);dsimp only at hns₁ hsb₁ ⊢;have fresh2:H2 s2.heap.objs.size=none:=I2.hok.fresh (qf _);have⟨W,⟨m0,w0⟩,turn⟩:=hW s2.heap.objs.size fresh2
 generalize hD:s2.heap.objs.size=D at*;have I3:Inv X pins σ (upd H2 D (.lst [])) { s2 with heap:=s2.heap.push { cls:=.type "list",dict:=none,data:=.seq ([]:LVl).toArray } }:=by
  refine I2.laid (t':=s2.toks) (λb u e=>qm _ e) (nQ hD) ?_;refine⟨by simp,[],0,.nil,?_⟩;rw[<-hD];exact qJ _ rfl
 generalize hS3:({ s2 with heap:=s2.heap.push { cls:=.type "list",dict:=none,data:=.seq ([]:LVl).toArray } }:ShX)=s3 at*;have hh3:s3.heap=s2.heap.push { cls:=.type "list",dict:=none,data:=.seq ([]:LVl).toArray }:=by rw[<-hS3]
 have objs:∀b∈fp,∃o,s3.heap.get? b=some o:=λb hb=>by
  have⟨o,e,_⟩:=T.obj _ _ st2 b hb;exact⟨o,by rw[hh3];exact qm _ e⟩
 have neD:∀b∈fp,b≠D:=λb hb z=>by
  have⟨o,e,_⟩:=T.obj _ _ st2 b hb;have e1:=qO e;rw[hD,z] at e1;exact k9 _ e1
 have f3:∀b∈fp,Jh X pins (upd H2 D (.lst [])) b:=λb hb=>⟨by rw[zV (neD b hb)];exact(f2 b hb).1,(f2 b hb).2⟩
 have hsb:Heap.SameBut s3.heap.objs.size (s3.heap.push { cls:=.type "dict",data:=.dict #[] }) h₁:=by
  rw[<-hS3];exact hsb₁
 have hns:h₁.Ns s3.heap.objs.size (λ_=>none):=by
  rw[<-hS3];exact hns₁
 have keep:∀b o,s3.heap.get? b=some o->h₁.get? b=some o:=λb o e=>hsb.extBut b o (k6 (qO e)) (qm _ e)
 have IY:=zeb (Ts:=Ts) (F:=F) (tk:=s3.toks) I3 S ko f3 objs hF hns keep;have tn1:tn 0 h₁:=T.keep _ _ _ st2 λb hb o e=>keep b o (by rw[hh3];exact qm _ e)
 have stat:∀{H':Hp},(∀b∈fp,H' b=none)->∀b∈fp,Jh (z9 X (Ts++F.map λj=>X.N.getD j "") scope cl s3.heap.objs.size fp s3 (upd H2 D (.lst []))) [] H' b:=λhn b hb=>
  ⟨hn b hb,(IY.ok.exf b hb).1,IY.ok.exfs b hb,.inl hb,(IY.ok.exf b hb).2,λp hp=>absurd (show p∈([]:PNx) from hp) (by simp)⟩
 have back:∀{σ':St} {H':Hp} {s':ShX},Inv (z9 X (Ts++F.map λj=>X.N.getD j "") scope cl s3.heap.objs.size fp s3 (upd H2 D (.lst []))) [] σ' H' s'->k D H'->compPost (model X.prog X.w) X.A X.xe use Q (.ref D) s3.heap.objs.size (.ok .next) s':=λ{σ' H' s'} J' q=>by
  have hI:Inv X pins σ H' s':=by
   have⟨hh,gg,dd,tt,os'⟩:=s';have ho:os'=s3.os:=J'.os;subst ho;exact I3.call (h':=hh) (g':=gg) (d':=dd) (t':=tt) (ch:=fp) J'.base J'.hok J'.bare λb hb=>⟨(f3 b hb).2.2.2.1,(f3 b hb).2.1,(f3 b hb).2.2.2.2.1,(f3 b hb).2.2.2.2.2⟩
  have⟨m,hm,_⟩:=J'.loc;exact fin s' H' D s3.heap.objs.size m hI (I3.zb4 (qf _) J'.free) hm q
 have loop:∀s4:Shared,s4={ s3 with heap:=h₁,toks:=s3.toks }->
   codeAny (model X.prog X.w) X.A (.compLoop (.ListComp elt [⟨tg,iter,[c],0⟩] scope pos) 0 (.ref it) (.ref D) (compEnvC scope cl s3.heap.objs.size X.env)) (compPost (model X.prog X.w) X.A X.xe use Q (.ref D) s3.heap.objs.size) s4:=by
  rintro s4 rfl;refine zdY (λn s'=>∃i σ' H',Inv (z9 X (Ts++F.map λj=>X.N.getD j "") scope cl s3.heap.objs.size fp s3 (upd H2 D (.lst []))) [] σ' H' s'/\tn i s'.heap/\(∀b∈fp,H' b=none)/\W i n σ' H') ?_ m0
   ⟨0,_,_,IY,tn1,λb hb=>(f3 b hb).1,w0⟩
  rintro n s5 ⟨i,σ5,H5,I5,st5,fr5,w5⟩;rcases turn i n σ5 H5 w5 with⟨stop,qn⟩|⟨go,N,hN,step⟩
  ·refine thn (T.done (z9 X (Ts++F.map λj=>X.N.getD j "") scope cl s3.heap.objs.size fp s3 (upd H2 D (.lst []))) rfl rfl rfl hc i [] s5 σ5 H5 _ I5 (stat fr5) st5 stop) λr s6 ⟨hr,I6⟩=>?_
   subst hr;exact back I6 qn
  ·refine thn (T.item (z9 X (Ts++F.map λj=>X.N.getD j "") scope cl s3.heap.objs.size fp s3 (upd H2 D (.lst []))) rfl rfl rfl hc i [] s5 σ5 H5 _ I5 (stat fr5) st5 go) λr s6 ⟨u,hr,h6⟩=>?_
   subst hr;refine thn h6 λ_ s7 ⟨x,H7,I7,r7,y7,st7,fr7⟩=>?_
   have I7':=I7.pinned (stat fr7) (T.obj _ _ st7);refine thn (hg cl _ fp s3 _ _ s7 σ5 H7 x u _ I7' r7 (step x H7 y7)) λ_ s8 ⟨σ8,H8,I8,q8⟩=>?_
   refine thn (ht cl _ fp s3 _ _ s8 σ8 H8 _ I8 q8) λok s81 ⟨H81,I81,q81⟩=>?_
   cases ok with
   |true=>
    rw[qj rfl] at q81 ⊢;refine thn (he cl _ fp s3 _ _ s81 σ8 H81 _ I81 q81) λev s9 ⟨y,H9,I9,r9,xs,hx,hz,n9⟩=>?_
    refine thn (uD _ s9 σ8 H9 (.ref D) [y] (.ref D) [ev] (λ_ H'=>N σ8 H') I9 rfl (.cons r9 .nil) ⟨D,xs,y,rfl,rfl,hx,hz,n9⟩) λ_ s10 ⟨z,H10,I10,_,n10⟩=>?_
    have⟨m',hm,w10⟩:=hN σ8 H10 n10;refine⟨m',hm,i+1,σ8,H10,I10.uC,T.keep _ _ _ st7 λb hb o e=>(I10.pin (b,o) (qS _ (qS _ (je hb e)))).1,λb hb=>?_,w10⟩;have⟨o,e,d⟩:=T.obj _ _ st7 b hb;exact(I10.pin (b,o) (qS _ (qS _ (je hb e)))).2.1
   |false=>
    rw[qo qL] at q81 ⊢;have⟨m',hm,w10⟩:=hN σ8 H81 q81;refine⟨m',hm,i+1,σ8,H81,I81.uC,T.keep _ _ _ st7 λb hb o e=>(I81.pin (b,o) (qS _ (qS _ (je hb e)))).1,λb hb=>?_,w10⟩;have⟨o,e,d⟩:=T.obj _ _ st7 b hb;exact(I81.pin (b,o) (qS _ (qS _ (je hb e)))).2.1
 subst hS3;subst hD;exact codeAny_compStart_list (loop _ rfl) (T.self _ 0 _ _ _ tn1 (loop _ rfl))
def zgx(hc:X.calm=true)(hi:PI X tg iter wi)(S:yc X scope)(hF:∀j∈F,∃x,X.N[j]?=some x/\scope.names.lookup x=some .free)(hg:∀cl C ex s H,PG (z9 X (Ts++F.map λj=>X.N.getD j "") scope cl C ex s H) tg g)(he:∀cl C ex s H,PE (z9 X (Ts++F.map λj=>X.N.getD j "") scope cl C ex s H) elt te)(ht:∀cl C ex s H,PT (z9 X (Ts++F.map λj=>X.N.getD j "") scope cl C ex s H) c tc)(hs:FSx X iter:=by exact λ_=>rfl):PE X (.ListComp elt [⟨tg,iter,[c],0⟩] scope pos) (λσ H Q=>zcb Ts.length F wi g tc te (λD H'=>Q (.ref D) H') σ H):=by
 intro pins s σ H Q I h;obtain⟨cl,hcl,ko⟩:=Ji (U4 I S);rw[eval_ListComp];refine mG (use:=none) rfl hs hcl S.kind S.loc (Zr (use:=none) hc hi S hF hg he ht ko I h λs' H' D C m I' fC hm q=>?_);refine⟨m,hm,λh' hs'=>⟨.ref D,H',?_,rfl,q⟩⟩;exact I'.turned (t':=s'.toks) (λb o hb e=>hs'.extBut b o hb e) fC.1 fC.2.1 fC.2.2.2.1 fC.2.2.2.2.1 fC.2.2.2.2.2
def zkP(T:Nat)(F:LNt)(wi:TI)(g:TG)(tc:TT)(te:TE)(i:Nat):TS:=λD σ H=>zcb T F wi g tc te (λl H'=>D.nx (σ.set i (some (.ref l))) H') σ H
def VC{x:Str}{pos' spos:Pos}{i:Nat}(hN:X.N.Nodup)(hi':X.N[i]?=some x)(hx:X.env.scope.names.lookup x=some .local)(hc:X.calm=true)(hi:PI X tg iter wi)(S:yc X scope)(hF:∀j∈F,∃x,X.N[j]?=some x/\scope.names.lookup x=some .free)(hg:∀cl C ex s H,PG (z9 X (Ts++F.map λj=>X.N.getD j "") scope cl C ex s H) tg g)(he:∀cl C ex s H,PE (z9 X (Ts++F.map λj=>X.N.getD j "") scope cl C ex s H) elt te)(ht:∀cl C ex s H,PT (z9 X (Ts++F.map λj=>X.N.getD j "") scope cl C ex s H) c tc)(hsw:swapsWith (.ListComp elt [⟨tg,iter,[c],0⟩] scope pos) (some (.Name x pos')) spos.line X.env=pure true:=by rfl)(hs:FSx X iter:=by exact λ_=>rfl):PS X (.Assign [.Name x pos'] (.ListComp elt [⟨tg,iter,[c],0⟩] scope pos) spos) (zkP Ts.length F wi g tc te i):=by
 intro pins s σ H D I h;obtain⟨cl,hcl,ko⟩:=Ji (U4 I S);rw[exec_Assign_Name_used _ _ _ _ hsw];refine qt (nY (qt ?_));show wpAny _ X.A (do let _ <-comprehension (.ListComp elt [⟨tg,iter,[c],0⟩] scope pos) scope X.env _ (newList []) false (eval iter X.env) (some (assign (.Name x pos') X.env))) _ _ s
 refine qt (gu (mG (use:=some (assign (.Name x pos') X.env)) (Q:=λ_ s'=>SP X pins D .next s') rfl hs hcl S.kind S.loc
  (Zr (use:=some (assign (.Name x pos') X.env)) hc hi S hF hg he ht ko I h λs' H' l C m I' fC hm q=>?_)) (λ_ s' hq=>qU (qU hq)) λ_ _ e=>e)
 show wpAny _ X.A (assign (.Name x pos') X.env (.ref l)) _ _ s'
 refine p5 (Wk I' hN hi' (.inl hx) (show RelV (.ref l) (.ref l) from rfl) (λs2 I2 hsame=>?_) (.inr hx));have⟨a,hsb,ha⟩:=hsame;have neC:C≠a:=by
  rcases ha with rfl|ha
  ·exact fC.2.1
  ·exact λz=>fC.2.2.2.2.1 x a ha z.symm
 have hm2:s2.heap.Ns C m:=hm.sameBut hsb neC;refine⟨m,hm2,λh' hs'=>⟨_,H',?_,q⟩⟩;exact I2.turned (t':=s2.toks) (λb o hb e=>hs'.extBut b o hb e) fC.1 fC.2.1 fC.2.2.2.1 fC.2.2.2.2.1 fC.2.2.2.2.2
end
end L2
namespace L2.Fu
open PySem PySem.Spec PyProof.Rows
def wz{α β:Type}(h:α->Option (Option β)):List α->Option (List β)
 |[]=>some []
 |d::r=>(h d).bind λo=>(wz h r).map λys=>match o with |some y=>y::ys|none=>ys
def Jf(T:Nat)(F:LNt)(fi:RLx)(b:PyData->Ro->Option Ro)(fc:Ro->Option Bool)(fe:RPx):RLx:=λρ=>
 (fi ρ).bind λds=>if ds.length<=16777216 then wz (λd=>(b d (compEnv T F ρ)).bind λρ1=>(fc ρ1).bind λok=>if ok then (fe ρ1).map some else some none) ds else none
def tFT(K:FRx)(f:Ro->Option Bool):TT:=λσ H Q=>∃os ρ b,xC K H os σ ρ/\f ρ=some b/\∀H',Same H H'->Q b H'
def FT.pt{X:Cx}{e:Expr}{f:Ro->Option Bool}(h:FT X e f):PT X e (tFT X.K f):=by
 have⟨t,p,q⟩:=h;intro pins s σ H Q I z;have⟨os,ρ,d,R,e1,k⟩:=z;exact p pins s σ H Q I (q σ H os ρ d Q R e1 k)
def JA{K:FRx}{T:Nat}{F:LNt}{b:PyData->Ro->Option Ro}{fc:Ro->Option Bool}{fe:RPx}{σ:St}{ρ:Ro}{H1:Hp}{os:LAd}{D:AdX}{is:LNt}{k:Addr->Hp->Prop}{J:It}{ds rs:LPd}(his:∀i∈is,i<T)(R:xC K H1 os σ ρ)(hn:ds.length<=16777216)(hD:H1 D=none)(W:Walks K H1 (offs H1 os) J ds)(hm:wz (λd=>(b d (compEnv T F ρ)).bind λρ1=>(fc ρ1).bind λok=>if ok then (fe ρ1).map some else some none) ds=some rs)(fin:∀H' xs,Same H1 H'->H' D=some (.lst xs)->Reps K (offs H' (D::os)) xs rs->k D H'):zfg T F (gF K is b) (tFT K fc) (tF K fe) k σ H1 D J:=by
 have so:∀H',Same H1 H'->Same (offs H1 os) (offs H' (D::os)):=λH' s c o z=>by
  by_cases hb:c∈os
  ·rw[xN hb] at z;cases z
  ·rw[zw hb] at z;rw[zw]
   ·exact s c o z
   ·intro w;rcases qx.mp w with w|w
    ·rw[w,hD] at z;cases z
    ·exact hb w
 have al:∀H' xs,Same H1 H'->H' D=some (.lst xs)->Al H' (D::os):=λH' xs s hx a ha=>by
  rcases qx.mp ha with z|z
  ·subst z;exact⟨_,hx⟩
  ·have⟨o,e⟩:=R.al a z;exact⟨o,s _ _ e⟩
 refine⟨λi m σ' H'=>m=ds.length - i/\i<=ds.length/\(∃ts:St,ts.length=T/\σ'=ts++F.map λj=>(σ[j]?).join)/\Same H1 H'/\∃xs done rest,H' D=some (.lst xs)/\xs.length<=i/\Reps K (offs H' (D::os)) xs done/\wz (λd=>(b d (compEnv T F ρ)).bind λρ1=>(fc ρ1).bind λok=>if ok then (fe ρ1).map some else some none) (ds.drop i)=some rest/\done++rest=rs,
  ⟨ds.length,rfl,kE _,⟨List.replicate T none,by simp,rfl⟩,ya hD _,[],[],rs,zH,qf _,.nil,hm,rfl⟩,?_⟩
 rintro i m σ' H' ⟨rfl,hi,⟨ts,hts,rfl⟩,sm,xs,done,rest,hx,hl,rp,hf,hdr⟩;obtain⟨w1,w2⟩:=W H' (D::os) (al H' xs sm hx) sm (so H' sm);by_cases hlt:i<ds.length
 ·obtain⟨d,hd⟩:∃d,ds[i]?=some d:=⟨_,qk hlt⟩;have⟨g1,g2⟩:=w1 i d hd;have ed:ds.drop i=d::ds.drop (i+1):=by
   rw[gN hlt];rw[qk hlt] at hd;cases hd;rfl
  rw[ed] at hf;have⟨o,e,hf⟩:=bind_some hf;have⟨ys,hf2,ho⟩:=map_some hf;have⟨ρ',e1,e2⟩:=bind_some e;have⟨ok,e3,e4⟩:=bind_some e2;refine .inr ⟨g1,λσ2 H2=>i+1<=ds.length/\(∃ts:St,ts.length=T/\σ2=ts++F.map λj=>(σ[j]?).join)/\Same H1 H2/\∃xs done rest,H2 D=some (.lst xs)/\xs.length<=i+1/\Reps K (offs H2 (D::os)) xs done/\wz (λd=>(b d (compEnv T F ρ)).bind λρ1=>(fc ρ1).bind λok=>if ok then (fe ρ1).map some else some none) (ds.drop (i+1))=some rest/\done++rest=rs,?_,?_⟩
  ·rintro σ2 H2 ⟨h1,h2,h3,h4⟩;exact⟨ds.length - (i+1),by omega,rfl,h1,h2,h3,h4⟩
  ·intro x H2 hy;have⟨s2,rx⟩:=g2 x H2 hy;refine⟨D::os,d,compEnv T F ρ,ρ',rx,e1,λσ2 st=>?_⟩;have R2:xC K H2 (D::os) (ts++F.map λj=>(σ[j]?).join) (compEnv T F ρ):=Y8 T F R hD (sm.trans s2) (s2 _ _ hx) hts;have hts2:∃ts':St,ts'.length=T/\σ2=ts'++F.map λj=>(σ[j]?).join:=st.tail his hts rfl
   refine⟨D::os,ρ',ok,R2.sets st,e3,λH31 s31=>?_⟩;cases ok with
   |true=>
    rw[qj rfl] at e4 ⊢;have⟨r,e5,e6⟩:=map_some e4;subst e6;refine⟨D::os,ρ',r,(R2.sets st).same s31,e5,λv H4 s4 rv=>?_⟩;refine⟨xs,s4 _ _ (s31 _ _ (s2 _ _ hx)),?_,hlt,hts2,(((sm.trans s2).trans s31).trans s4).WZ hD _,xs++[v],done++[r],ys,zH,by rw[qy];exact pO hl,?_,hf2,?_⟩
    ·show xs.length<16777216
     omega
    ·rw[jA];exact(rp.same (zm ((s2.trans s31).trans s4) _)).append (.cons rv .nil)
    ·rw[<-hdr,<-ho,gU];rfl
   |false=>
    rw[qo qL] at e4 ⊢;cases e4;refine⟨hlt,hts2,(sm.trans s2).trans s31,xs,done,ys,s31 _ _ (s2 _ _ hx),Nat.le_succ_of_le hl,rp.same (zm (s2.trans s31) _),hf2,?_⟩;rw[<-hdr,<-ho]
 ·have e:i=ds.length:=by omega
  subst e;rw[mR] at hf;cases hf;rw[kj] at hdr;subst hdr;exact .inl ⟨w2,fin H' xs sm hx rp⟩
section
variable{X:Cx}{elt tg iter c:Expr}{scope:Scope}{pos:Pos}{Ts:LSr}{F:LNt}{is:LNt}{fi:RLx}{b:PyData->Ro->Option Ro}{fc:Ro->Option Bool}{fe:RPx}
def zg9(hc:X.calm=true)(hi:FIB X tg iter fi)(S:yc X scope)(hF:∀j∈F,∃x,X.N[j]?=some x/\scope.names.lookup x=some .free)(hg:∀cl C ex s H,FG (z9 X (Ts++F.map λj=>X.N.getD j "") scope cl C ex s H) tg is b)(ht:∀cl C ex s H,FT (z9 X (Ts++F.map λj=>X.N.getD j "") scope cl C ex s H) c fc)(he:∀cl C ex s H,FE (z9 X (Ts++F.map λj=>X.N.getD j "") scope cl C ex s H) elt fe)(his:∀i∈is,i<Ts.length:=by decide)(hs:FSx X iter:=by exact λ_=>rfl):FL X (.ListComp elt [⟨tg,iter,[c],0⟩] scope pos) (Jf Ts.length F fi b fc fe):=by
 have⟨wi,pi,qi⟩:=hi;refine⟨_,zgx (Ts:=Ts) (F:=F) (g:=gF X.K is b) (tc:=tFT X.K fc) (te:=tF X.K fe) hc pi S hF hg (λcl C ex s H=>(he cl C ex s H).pe) (λcl C ex s H=>(ht cl C ex s H).pt) hs,λσ H os ρ rs Q R q k=>?_⟩;have⟨ds,e1,q⟩:=bind_some q;split at q
 ·rename_i hl;refine qi σ H os ρ ds _ R e1 λJ H' s W D hD=>?_
  exact JA his (R.same s) hl hD W q λH2 xs s2 hx r=>k D xs H2 (s.free hD) (s.trans s2) hx r
 ·cases q
def zg5(i:Nat){x:Str}{pos' spos:Pos}(hN:X.N.Nodup)(hc:X.calm=true)(hi:FIB X tg iter fi)(S:yc X scope)(hF:∀j∈F,∃x,X.N[j]?=some x/\scope.names.lookup x=some .free)(hg:∀cl C ex s H,FG (z9 X (Ts++F.map λj=>X.N.getD j "") scope cl C ex s H) tg is b)(ht:∀cl C ex s H,FT (z9 X (Ts++F.map λj=>X.N.getD j "") scope cl C ex s H) c fc)(he:∀cl C ex s H,FE (z9 X (Ts++F.map λj=>X.N.getD j "") scope cl C ex s H) elt fe)(his:∀i∈is,i<Ts.length:=by decide)(hi':X.N[i]?=some x:=by rfl)(hx:X.env.scope.names.lookup x=some .local:=by rfl)(hsw:swapsWith (.ListComp elt [⟨tg,iter,[c],0⟩] scope pos) (some (.Name x pos')) spos.line X.env=pure true:=by rfl)(hs:FSx X iter:=by exact λ_=>rfl):FS X (.Assign [.Name x pos'] (.ListComp elt [⟨tg,iter,[c],0⟩] scope pos) spos) (jc i (Jf Ts.length F fi b fc fe)):=by
 have⟨wi,pi,qi⟩:=hi;refine⟨_,VC (Ts:=Ts) (F:=F) (g:=gF X.K is b) (tc:=tFT X.K fc) (te:=tF X.K fe) hN hi' hx hc pi S hF hg (λcl C ex s H=>(he cl C ex s H).pe) (λcl C ex s H=>(ht cl C ex s H).pt) hsw hs,λH0 os0 D σ H os ρ r R q k=>?_⟩;have⟨ds,e1,q⟩:=bind_some q;cases q;have⟨es,e1,q⟩:=bind_some e1;split at q
 ·rename_i hl;refine qi σ H os ρ es _ R.rel e1 λJ H' s W D hD=>?_
  exact JA his (R.rel.same s) hl hD W q λH2 xs s2 hx r=>k _ _ _ (R.Yq (s.free hD) (s.trans s2) hx r) (jo (s.free hD) (s.trans s2))
 ·cases q
end
section
variable{X:Cx}{e:Expr}{pos apos cpos p1:Pos}
theorem v3{K:FRx}{H:Hp}:∀{xs:List V} {ds:LPd} (j:Nat),Reps K H xs ds->Reps K H (xs.eraseIdx j) (ds.eraseIdx j)
 |_,_,_,.nil=>.nil
 |_,_,0,.cons _ q=>q
 |_,_,j+1,.cons h q=>.cons h (v3 j q)
end
def ziv:bootBuiltins "max"=some (.builtin "max"):=by decide+kernel
def V2:RFx:=(sq (jc 2 (zim (vq (aC (zg uj (aC (zg yj (aC (gv 1) a0)) a0)) a0)) (zg yj (aC (gv 0) a0))))
 (frS 2 (retS (zg ud (aC (gv 0) (aC (gv 2) (aC (gv 1) a0)))))))
def uY:LPx:=fnF 3 2 V2
def zcK:RFx:=(sq (jc 2 (zR 2 [] (Ue true true (aC (op2 ixD (gv 0) (cst (.int 1))) (aC (op2 ixD (gv 1) (cst (.int 1))) a0))) (b2 (bN 0) (bN 1)) (zg uY (aC (gv 0) (aC (gv 1) a0)))))
 (retS (xj (aC (op2 Jq (op2 ixD (gv 0) (cst (.int 0))) (op2 ixD (gv 1) (cst (.int 0)))) (aC (zg zW (aC (gb 2) a0)) (aC (op2 Jq (op2 ixD (gv 0) (cst (.int 2))) (op2 ixD (gv 1) (cst (.int 2)))) a0))))))
def Zg:LPx:=fnF 3 2 zcK
end L2.Fu
namespace L2.Fu
open PySem WS WD
open PySem.Builtin.Int (intBits)
def zfO{f:RLx}{g:RPx}{ρ:Ro}{d:PdX}{n:Nat}(h1:f ρ=some [d])(h2:g ρ=some (.int (n:Int)))(hn:n<=1000):zim f g ρ=some ((List.range n).map λ_=>d):=by
 unfold zim;rw[h1,qp,h2];dsimp only;rw[qj (by refine⟨?_,?_,?_⟩<;>first |omega|simp;omega),kf,Vu]
def Uc{g:RLx}{ρ:Ro}{ds:LPd}(h:g ρ=some ds)(hl:ds.length<=16777216):vq g ρ=some ds:=by
 unfold vq;rw[h,qp,qj hl]
def zax{n m:Nat}{f g:Q2x}(hn:n<=42)(hm:m<=42):uY [yE n f,yE m g]=some (yE (n+m) (jnM n f (λ_ _=>0) g)):=by
 refine zL rfl ?_;refine(zv (yI (d:=(List.range n).map λ_=>yr m λ_=>0) ?_)).trans ?_
 ·refine zfO (d:=yr m λ_=>0) ?_ ((zb rfl).trans (x9 n _)) (by omega);exact Uc (zj ((zb (zj ((zb rfl).trans (x9 m _)) rfl)).trans (Zm (by omega))) rfl) (by show 1<=16777216;decide)
 ·exact zA ((zb rfl).trans (YR hn hm))
def jb(n:Nat)(st su:Q3x):Nat->Nat->Nat->Rat:=λg=>jnM n (st g) (λ_ _=>0) (su g)
def zgL{n m s:Nat}{fi gi:Q1x}{st su:Q3x}{la lb:Q1x}(hn:n<=42)(hm:m<=42)(hs:s<=42):Zg [zq n s fi st la,zq m s gi su lb]=some (zq (n+m) s (jn n fi gi) (jb n st su) (jn n la lb)):=by
 refine zL rfl ?_;refine(zv (yI (d:=(List.range s).map λg=>yE (n+m) (jb n st su g)) ?_)).trans (zA ?_)
 ·refine zU (xs:=List.range s) (e:=λg=>.tuple [yE n (st g),yE m (su g)]) ((zjN (zj ((zd rfl rfl).trans jW) (zj ((zd rfl rfl).trans jW) rfl))).trans (qR some (JT _ _ s))) (by simpa using qw hs (by decide)) λg hg=>?_
  exact JX.trans ((zb rfl).trans (zax hn hm))
 ·exact(VL ((zd ((zd rfl rfl).trans jY) ((zd rfl rfl).trans jY)).trans (wG (by omega))) ((zb rfl).trans rfl) ((zd ((zd rfl rfl).trans wB) ((zd rfl rfl).trans wB)).trans (wG (by omega)))).trans rfl
theorem VQ{n m:Nat}{st su:Q3x}{la lb:Q1x}:∀(ws:LNt)(r u v:Q1x),(∀x,x<n+m->r x=jn n u v x)->wt (n+m) (jb n st su) r (jn n la lb) ws=wt n st u la ws+wt m su v lb ws
 |[],r,u,v,h=>by
  show sumTo (n+m) (λx=>r x*jn n la lb x)=sumTo n (λx=>u x*la x)+sumTo m (λx=>v x*lb x)
  rw[jC,zf n (g:=λx=>u x*la x) λx hx=>by rw[h x (by omega),zfc hx,zfc hx],zf m (g:=λx=>v x*lb x) λx hx=>by rw[h _ (by omega),zcS,zcS]]
 |g::ws,r,u,v,h=>by
  show wt (n+m) (jb n st su) (led (n+m) r (jb n st su g)) (jn n la lb) ws=wt n st (led n u (st g)) la ws+wt m su (led m v (su g)) lb ws
  refine VQ ws _ _ _ λx hx=>?_
  show sumTo (n+m) (λa=>r a*jb n st su g a x)=_
  rw[jC];have c1:∀a,a<n->jb n st su g a=jn n (st g a) λ_=>0:=λa ha=>qj ha
  have c2:∀b,jb n st su g (n+b)=jn n (λ_=>0) (su g b):=λb=>by
   unfold jb jnM;rw[qo (by omega),show n+b - n=b by omega]
  by_cases hxn:x<n
  ·rw[zfc hxn,zf n (g:=λa=>u a*st g a x) λa ha=>by rw[h a (by omega),zfc ha,c1 a ha,zfc hxn],zf m (g:=λ_=>0) λb hb=>by rw[c2,zfc hxn];grind,jP];show led n u (st g) x+0=led n u (st g) x
   grind
  ·obtain⟨y,rfl⟩:∃y,x=n+y:=⟨x - n,by omega⟩;rw[zcS,zf n (g:=λ_=>0) λa ha=>by rw[c1 a ha,zcS];grind,jP,zf m (g:=λb=>v b*su g b y) λb hb=>by rw[h _ (by omega),zcS,c2,zcS]];show 0+led m v (su g) y=led m v (su g) y
   grind
section
variable{n m s s':Nat}{fi gi:Q1x}{st su:Q3x}{la lb:Q1x}
def zbt{ρ:Ro}{i:Nat}(h:gv i ρ=some (zq n s fi st la)):zg yj (aC (op2 ixD (gv i) (cst (.int 1))) a0) ρ=some (.int (s:Int)):=(zb (zj ((zd h rfl).trans jW) rfl)).trans (x9 s _)
end
end L2.Fu
namespace L2.Fu
open PySem PySem.Spec PyProof.Rows
def VJ:RFx:=(sq (zX 2 (zg zW (aC (yg (zR 1 [] (yw (op2 ixD (gv 0) (cst (.int 0)))) (bN 0) (xj (aC (cst (.int 0)) (aC (cst (.int 1)) a0))))) a0)))
 (sq (zX 3 (zg zW (aC (yg (zR 1 [] (yw (op2 ixD (gv 1) (cst (.int 0)))) (bN 0) (xj (aC (cst (.int 0)) (aC (cst (.int 1)) a0))))) a0)))
 (sq (jc 4 (vq a0))
 (sq (jS (y4 (aC (zg yj (aC (op2 ixD (gv 0) (cst (.int 1))) a0)) a0)) (bN 5) (sq (jc 6 (zR 1 [3] (yw (op2 ixD (op2 ixD (gv 0) (cst (.int 1))) (gv 5))) (bN 0) (op2 Jq (gv 0) (gv 1))))
 (apS 4 (zg zW (aC (yg (zgO (gk 6) (zR 1 [2] (yw (op2 ixD (op2 ixD (gv 1) (cst (.int 1))) (gv 5))) (bN 0) (op2 Jq (gv 1) (gv 0))))) a0)))))
 (retS (xj (aC (op2 Jq (op2 ixD (gv 0) (cst (.int 0))) (op2 ixD (gv 1) (cst (.int 0)))) (aC (zg zW (aC (gb 4) a0)) (aC (op2 Jq (op2 ixD (gv 0) (cst (.int 2))) (op2 ixD (gv 1) (cst (.int 2)))) a0)))))))))
def xU:LPx:=fnF 7 2 VJ
def uJ:RFx:=(sq (jc 4 (y3 uB (aC (gv 0) a0)))
 (sq (siS 4 (gv 2) (zg xf (aC (op2 ixD (gb 4) (gv 2)) (aC (zg yz (aC (gv 3) (aC (op2 ixD (gb 4) (gv 1)) a0))) a0))))
 (Uh (gk 4))))
def yO:LLx:=fnL 5 4 uJ
def Ye:RFx:=(sq (zX 4 (xj (aC (op2 Yt (cst (.int 0)) (op2 ixD (gv 3) (cst (.int 0)))) (aC (op2 ixD (gv 3) (cst (.int 1))) a0))))
 (sq (jc 5 (y3 yO (aC (op2 ixD (gv 0) (cst (.int 0))) (aC (gv 1) (aC (gv 2) (aC (gv 3) a0))))))
 (sq (jc 6 (y3 yO (aC (op2 ixD (gv 0) (cst (.int 2))) (aC (gv 2) (aC (gv 1) (aC (gv 4) a0))))))
 (sq (jc 7 (vq a0))
 (sq (jS (yw (op2 ixD (gv 0) (cst (.int 1)))) (bN 8) (sq (jc 9 (zR 1 [1,2,3] (yw (gv 8)) (bN 0) (yg (y3 yO (aC (gv 0) (aC (gv 1) (aC (gv 2) (aC (gv 3) a0))))))))
 (sq (siS 9 (gv 1) (yg (zR 1 [1,2,4,9] (y4 (aC (zg yj (aC (gb 9) a0)) a0)) (bN 0) (zg xf (aC (op2 ixD (op2 ixD (gb 4) (gv 1)) (gv 0)) (aC (zg yz (aC (gv 3) (aC (op2 ixD (op2 ixD (gb 4) (gv 2)) (gv 0)) a0))) a0))))))
 (apS 7 (zg zW (aC (yg (zR 1 [] (yw (gb 9)) (bN 0) (zg zW (aC (gv 0) a0)))) a0))))))
 (retS (xj (aC (zg zW (aC (gb 5) a0)) (aC (zg zW (aC (gb 7) a0)) (aC (zg zW (aC (gb 6) a0)) a0))))))))))
def wD:LPx:=fnF 10 4 Ye
def zaH:RFx:=(sq (zX 3 (zg yj (aC (op2 ixD (gv 0) (cst (.int 0))) a0)))
 (sq (zX 4 (zg yj (aC (op2 ixD (gv 0) (cst (.int 1))) a0)))
 (sq (ifS (zG (op2 gtI (gv 2) (cst (.int 0)))) (sq (zX 5 (zg xX (aC (gv 1) (aC (gv 2) (aC (gv 4) a0)))))
 (sq (zX 6 (zg zW (aC (yg (zR 1 [] (y4 (aC (gv 2) a0)) (bN 0) (xj (aC (cst (.int 0)) (aC (cst (.int 1)) a0))))) a0)))
 (ifS (zG (op2 eqD (op2 xF (gv 1) (cst (.int 2))) (cst (.int 0)))) (zX 0 (zg xU (aC (gv 0) (aC (xj (aC (gv 6) (aC (op2 ixD (gv 5) (cst (.int 1))) (aC (op2 ixD (gv 5) (cst (.int 2))) a0)))) a0)))) (zX 0 (zg xU (aC (gv 0) (aC (xj (aC (op2 ixD (gv 5) (cst (.int 0))) (aC (op2 ixD (gv 5) (cst (.int 1))) (aC (gv 6) a0)))) a0))))))) s0)
 (sq (zX 3 (op2 xD (gv 3) (gv 2)))
 (sq (jS (y4 (aC (cst (.int 3)) a0)) (bN 7) (sq (zX 1 (op2 xF (op2 xD (op2 yB (gv 1) (cst (.int 48271))) (cst (.int 31))) (cst (.int 2147483647))))
 (sq (zX 8 (op2 xF (op2 yS (gv 1) (cst (.int 5))) (zg maxD (aC (cst (.int 1)) (aC (gv 3) a0)))))
 (sq (zX 9 (op2 xF (op2 yS (gv 1) (cst (.int 35))) (zg maxD (aC (cst (.int 1)) (aC (gv 3) a0)))))
 (ifS (zG (op2 neD (gv 8) (gv 9))) (zX 0 (zg wD (aC (gv 0) (aC (gv 8) (aC (gv 9) (aC (zg xi (aC (op2 yS (gv 1) (cst (.int 300))) a0)) a0)))))) s0)))))
 (retS (gv 0)))))))
def Wu:LPx:=fnF 10 3 zaH
end L2.Fu
namespace L2.Fu
open PySem PySem.Spec PyProof.Rows WS WD
def zhe{i:Nat}{fi f:RPx}{ρ:Ro}{ds:LPd}{d:PdX}{a:Nat}(h1:gk i ρ=some ds)(h2:f ρ=some d)(h3:fi ρ=some (.int (a:Int)))(h4:a<ds.length):siS i fi f ρ=some (.nx (ρ.set i (.ow (ds.set a d)))):=by
 unfold siS;rw[h1,qp,h2,qp,h3];show(ixN ds.length (a:Int)).bind _=_
 have e:ixN ds.length (a:Int)=some a:=by
  unfold ixN;rw[qj (by omega),qj (by omega)];simp
 rw[e];rfl
def set_range{α:Type}(n p:Nat)(f:Nat->α)(x:α):((List.range n).map f).set p x=(List.range n).map λi=>if i=p then x else f i:=by
 refine gT λi=>?_
 rw[gC,qq,qq,qe,qu];by_cases hi:i<n
 ·rw[kd hi];by_cases hip:p=i
  ·subst hip;rw[qj rfl,qj hi];show some x=some (if p=p then x else f p)
   rw[qj rfl]
  ·rw[qo hip];show some (f i)=some (if i=p then x else f i)
   rw[qo (gG hip)]
 ·rw[kJ (l:=List.range n) (by simpa using km hi)];by_cases hip:p=i
  ·subst hip;rw[qj rfl,qo hi];rfl
  ·rw[qo hip];rfl
section
variable{n m s:Nat}{fi gi:Q1x}{st su:Q3x}{la lb:Q1x}
def J3{n i:Nat}{d:Nat->PyData}(h:i<n):ixD (.list ((List.range n).map d)) (.int (i:Int))=some (d i):=Vf (by rw[qq,kd h];rfl)
def ub(hn:n<=42)(hm:m<=42)(hs:s<=42):xU [zq n s fi st la,zq m s gi su lb]=some (zq (n+m) s (jn n fi gi) (jb n st su) (jn n la lb)):=by
 have nz:∀(k:Nat)(f:Q1x)(it:RPx)(ρ:Ro),k<=42->it ρ=some (yr k f)->zg zW (aC (yg (zR 1 [] (yw it) (bN 0) (xj (aC (cst (.int 0)) (aC (cst (.int 1)) a0))))) a0) ρ=some (yr k λ_=>0):=λk f it ρ hk h=>
  (zb (xs:=[.list ((List.range k).map λ_=>fr 0)]) (zj (zS (zU (xs:=List.range k) (e:=λi=>fr (f i)) (v8 h) (by rw[qu];omega) λi _=>yy.trans rfl)) rfl)).trans rfl
 obtain⟨ρ1,e1,o5,o6,rfl⟩:=wX (n:=s) (g:=aC (zg yj (aC (op2 ixD (gv 0) (cst (.int 1))) a0)) a0) (bd:=bN 5)
  (b:=sq (jc 6 (zR 1 [3] (yw (op2 ixD (op2 ixD (gv 0) (cst (.int 1))) (gv 5))) (bN 0) (op2 Jq (gv 0) (gv 1))))
   (apS 4 (zg zW (aC (yg (zgO (gk 6) (zR 1 [2] (yw (op2 ixD (op2 ixD (gv 1) (cst (.int 1))) (gv 5))) (bN 0) (op2 Jq (gv 1) (gv 0))))) a0))))
  (ρ0:=[.pu (zq n s fi st la),.pu (zq m s gi su lb),.pu (yr n λ_=>0),.pu (yr m λ_=>0),.ow [],.no,.no])
  (λi ρ=>∃o5 o6,ρ=[.pu (zq n s fi st la),.pu (zq m s gi su lb),.pu (yr n λ_=>0),.pu (yr m λ_=>0),.ow ((List.range i).map λg=>yE (n+m) (jb n st su g)),o5,o6])
  (zj ((zb (zj ((zd rfl rfl).trans jW) rfl)).trans (x9 s _)) rfl) (by omega) ⟨.no,.no,rfl⟩ λg ρ hg ⟨o5,o6,q⟩=>by
   subst q;refine⟨_,_,rfl,(zv (yI (d:=(List.range n).map λa=>yr (n+m) (jn n (st g a) λ_=>0)) ?_)).trans (JI (d:=yE (n+m) (jb n st su g)) rfl ?_ (by rw[qe,qu];omega)),.pu (.int (g:Int)),.ow ((List.range n).map λa=>yr (n+m) (jn n (st g a) λ_=>0)),?_⟩
   ·exact zU (xs:=List.range n) (e:=λa=>yr n (st g a)) (v8 ((zd ((zd rfl rfl).trans jW) rfl).trans (VR hg))) (by rw[qu];omega) λa _=>yy.trans ((zd rfl rfl).trans (wG (by omega)))
   ·refine(zb (xs:=[.list ((List.range (n+m)).map λx=>yr (n+m) (jb n st su g x))]) (zj (zS ?_) rfl)).trans rfl;refine(zfz rfl (zU (xs:=List.range m) (e:=λb=>yr m (su g b)) (d:=λb=>yr (n+m) (jn n (λ_=>0) (su g b))) (v8 ((zd ((zd rfl rfl).trans jW) rfl).trans (VR hg))) (by rw[qu];omega) λb _=>yy.trans ((zd rfl rfl).trans (wG (by omega)))) (by rw[qe,qe,qu,qu];omega)).trans (qR some ?_);refine Ww n m _ _ _ (λi hi=>?_) λi hi=>?_
    ·show _=yr (n+m) (jnM n (st g) (λ_ _=>0) (su g) i)
     unfold jnM;rw[qj hi]
    ·show _=yr (n+m) (jnM n (st g) (λ_ _=>0) (su g) (n+i))
     unfold jnM;rw[qo (by omega),show n+i - n=i by omega]
   ·rw[gP,qW];rfl
 refine zL rfl ?_;refine(zv (zD (nz n fi _ _ hn ((zd rfl rfl).trans jY)))).trans ((zv (zD (nz m gi _ _ hm ((zd rfl rfl).trans jY)))).trans ((zv (yI (d:=[]) rfl)).trans ((zv e1).trans (zA ?_))));exact(VL ((zd ((zd rfl rfl).trans jY) ((zd rfl rfl).trans jY)).trans (wG (by omega))) ((zb rfl).trans rfl) ((zd ((zd rfl rfl).trans wB) ((zd rfl rfl).trans wB)).trans (wG (by omega)))).trans rfl
def trn(i j:Nat)(c:Rat)(f:Q1x):Nat->Rat:=λx=>if x=j then f j+c*f i else f x
def w6{t:Bool}{i j:Nat}{c:Rat}{f:Q1x}{k:Nat}(hn:n<=42)(hi:i<n)(hj:j<n)(hk:k<=300)(hf:∀x,x<n->Sk k (f x))(hc:Sk 1 c):yO [qd t n f,.int (i:Int),.int (j:Int),fr c]=some ((List.range n).map λx=>fr (trn i j c f x)):=by
 have hl:uB [qd t n f]=some ((List.range n).map λx=>fr (f x)):=by cases t<;>rfl
 refine vA rfl ?_;refine(zv (yI ((yY rfl).trans hl))).trans ((zv (zhe (a:=j) (d:=fr (f j+c*f i)) rfl ?_ rfl (by rw[qe,qu];exact hj))).trans (jH ?_))
 ·exact(zb (zj ((zd rfl rfl).trans (J3 hj)) (zj ((zb (zj rfl (zj ((zd rfl rfl).trans (J3 hi)) rfl))).trans (uR (hc.bq (by omega)) ((hf i hi).bq (by omega)))) rfl))).trans (JG ((hf j hj).bq (by omega)) ((hc.mul (hf i hi)).bq (by omega)))
 ·rw[set_range];show some _=_
  refine qR some (kC λx _=>?_);unfold trn;by_cases q:x=j
  ·rw[qj q,qj q]
  ·rw[qo q,qo q]
def zlV{i j:Nat}{c:Rat}{f:Q1x}{k:Nat}(hi:i<n)(hj:j<n)(hf:∀x,x<n->Sk k (f x))(hc:Sk 1 c):∀x,x<n->Sk (k+2) (trn i j c f x):=λx hx=>by
 unfold trn;split
 ·have a:Sk (k+1) (c*f i):=by
   have:=hc.mul (hf i hi);rw[nU] at this;exact this
  exact((hf j hj).mono (by omega)).add a
 ·exact(hf x hx).mono (by omega)
def vo(i j:Nat)(c:Rat)(st:Q3x):Nat->Nat->Nat->Rat:=λg a b=>if a=i then trn i j c (st g i) b+-c*trn i j c (st g j) b else trn i j c (st g a) b
def zes{k:Nat}{q:Rat}(h:Sk k q):Sk k (-q):=by
 have⟨hm,x,e,hx⟩:=h;refine⟨hm,-x,?_,by rw[ny];exact hx⟩;rw[m9];grind
def zlk(c:Rat):PyData.tuple [.int (0 - c.num),.int (c.den:Int)]=fr (-c):=by
 unfold fr;rw[Rat.neg_num,Rat.neg_den];congr 3;omega
def zih{i j:Nat}{c:Rat}{k:Nat}(hn:n<=42)(hs:s<=42)(hi:i<n)(hj:j<n)(hk:k<=300)(A:Mach n s fi st la k)(hc:Sk 1 c):wD [zq n s fi st la,.int (i:Int),.int (j:Int),fr c]=some (zq n s (trn i j c fi) (vo i j c st) (trn j i (-c) la)):=by
 obtain⟨ρ1,e1,o8,o9,rfl⟩:=uS (ds:=(List.range s).map λg=>yE n (st g)) (it:=yw (op2 ixD (gv 0) (cst (.int 1)))) (bd:=bN 8)
  (b:=sq (jc 9 (zR 1 [1,2,3] (yw (gv 8)) (bN 0) (yg (y3 yO (aC (gv 0) (aC (gv 1) (aC (gv 2) (aC (gv 3) a0))))))))
   (sq (siS 9 (gv 1) (yg (zR 1 [1,2,4,9] (y4 (aC (zg yj (aC (gb 9) a0)) a0)) (bN 0) (zg xf (aC (op2 ixD (op2 ixD (gb 4) (gv 1)) (gv 0)) (aC (zg yz (aC (gv 3) (aC (op2 ixD (op2 ixD (gb 4) (gv 2)) (gv 0)) a0))) a0))))))
   (apS 7 (zg zW (aC (yg (zR 1 [] (yw (gb 9)) (bN 0) (zg zW (aC (gv 0) a0)))) a0)))))
  (ρ0:=[.pu (zq n s fi st la),.pu (.int (i:Int)),.pu (.int (j:Int)),.pu (fr c),.pu (fr (-c)),.ow ((List.range n).map λx=>fr (trn i j c fi x)),.ow ((List.range n).map λx=>fr (trn j i (-c) la x)),.ow [],.no,.no])
  (λg ρ=>∃o8 o9,ρ=[.pu (zq n s fi st la),.pu (.int (i:Int)),.pu (.int (j:Int)),.pu (fr c),.pu (fr (-c)),.ow ((List.range n).map λx=>fr (trn i j c fi x)),.ow ((List.range n).map λx=>fr (trn j i (-c) la x)),.ow ((List.range g).map λg=>yE n (vo i j c st g)),o8,o9])
  (v8 ((zd rfl rfl).trans jW)) ⟨.no,.no,rfl⟩ λg d ρ hd ⟨o8,o9,q⟩=>by
   subst q;rw[qq] at hd;obtain⟨g',hg',rfl⟩:=map_some hd;have hgs:g'<s:=qE.mp (qN hg')
   have:g'=g:=by
    obtain⟨h1,h2⟩:=qg.mp hg';rw[List.getElem_range] at h2;exact h2.symm
   subst this;have R:∀a,a<n->∀x,x<n->Sk (k+2) (trn i j c (st g' a) x):=λa ha=>zlV hi hj (λx hx=>A.st g' a x hgs ha hx) hc
   refine⟨_,_,rfl,(zv (yI (d:=(List.range n).map λa=>.list ((List.range n).map λx=>fr (trn i j c (st g' a) x))) ?_)).trans ((zv (zhe (a:=i) (d:=.list ((List.range n).map λb=>fr (trn i j c (st g' i) b+-c*trn i j c (st g' j) b))) rfl (zS ?_) rfl (by rw[qe,qu];exact hi))).trans (JI (d:=yE n (vo i j c st g')) rfl ?_ ?_)),.pu (yE n (st g')),.ow (((List.range n).map λa=>PyData.list ((List.range n).map λx=>fr (trn i j c (st g' a) x))).set i (.list ((List.range n).map λb=>fr (trn i j c (st g' i) b+-c*trn i j c (st g' j) b)))),?_⟩
   ·exact zU (xs:=List.range n) (e:=λa=>yr n (st g' a)) rfl (by rw[qu];omega) λa ha=>yy.trans (zS ((yY rfl).trans (w6 (t:=true) hn hi hj hk (λx hx=>A.st g' a x hgs (qE.mp ha) hx) hc)))
   ·refine jQ (n:=n) (zj ((zb rfl).trans (show yj [.list ((List.range n).map _)]=_ from ?_)) rfl) (by omega) λb hb=>yy.trans ?_
    ·show some (PyData.int (((List.range n).map _).length:Int))=_
     rw[qe,qu]
    ·exact(zb (zj ((zd ((zd rfl rfl).trans (J3 hi)) rfl).trans (J3 hb)) (zj ((zb (zj rfl (zj ((zd ((zd rfl rfl).trans (J3 hj)) rfl).trans (J3 hb)) rfl))).trans (uR ((zes hc).bq (by omega)) ((R j hj b hb).bq (by omega)))) rfl))).trans (JG ((R i hi b hb).bq (by omega)) (((zes hc).mul (R j hj b hb)).bq (by omega)))
   ·rw[set_range];refine(zb (xs:=[.list ((List.range n).map λa=>yr n (vo i j c st g' a))]) (zj (zS (zU (xs:=List.range n) (e:=λa=>if a=i then PyData.list ((List.range n).map λb=>fr (trn i j c (st g' i) b+-c*trn i j c (st g' j) b)) else PyData.list ((List.range n).map λx=>fr (trn i j c (st g' a) x))) rfl (by rw[qu];omega) λa ha=>yy.trans ?_)) rfl)).trans rfl;show zg zW (aC (gv 0) a0) [.pu (if a=i then _ else _)]=some (yr n λb=>vo i j c st g' a b)
    unfold vo;by_cases q:a=i
    ·rw[qj q];refine((zb rfl).trans rfl).trans ?_;show some (PyData.tuple _)=some (PyData.tuple _)
     refine qR (λl=>some (PyData.tuple l)) (kC λb _=>?_);exact qR fr (qj q).symm
    ·rw[qo q];refine((zb rfl).trans rfl).trans ?_;show some (PyData.tuple _)=some (PyData.tuple _)
     refine qR (λl=>some (PyData.tuple l)) (kC λb _=>?_);exact qR fr (qo q).symm
   ·rw[qe,qu];omega
   ·rw[gP,qW];rfl
 rw[qe,qu] at e1;refine zL rfl ?_;refine(zv (zD (d:=fr (-c)) ((zda (x:=.int (0 - c.num)) (y:=.int (c.den:Int)) rfl rfl).trans (qR some (zlk c))))).trans ?_;refine(zv (yI ((yY (zj ((zd rfl rfl).trans jY) rfl)).trans (w6 (t:=true) hn hi hj hk A.fi hc)))).trans ?_;refine(zv (yI ((yY (zj ((zd rfl rfl).trans wB) rfl)).trans (w6 (t:=true) hn hj hi hk A.la (zes hc))))).trans ?_;refine(zv (yI (d:=[]) rfl)).trans ((zv e1).trans (zA ?_));exact(VL ((zb rfl).trans rfl) ((zb rfl).trans rfl) ((zb rfl).trans rfl)).trans rfl
end
section
variable{n m s:Nat}{fi gi:Q1x}{st su:Q3x}{la lb:Q1x}
theorem v5(F:Q1x)(G:Rat){p:Nat}:∀n,p<n->sumTo n (λa=>if a=p then F a+G else F a)=sumTo n F+G
 |0,h=>absurd h (gq _)
 |n+1,h=>by
  show sumTo n (λa=>if a=p then F a+G else F a)+(if n=p then F n+G else F n)=(sumTo n F+F n)+G
  by_cases e:n=p
  ·subst e;rw[qj rfl,zf n (g:=F) λi hi=>qo (by omega)];grind
  ·rw[qo e,v5 F G n (by omega)];grind
def zaJ{i j:Nat}{c:Rat}(hi:i<n)(hj:j<n)(hij:i≠j)(r:Q1x)(g:Nat):∀b,led n (trn i j c r) (vo i j c st g) b=trn i j c (led n r (st g)) b:=λb=>by
 have e1:led n (trn i j c r) (vo i j c st g) b=sumTo n λa=>r a*trn i j c (st g a) b:=by
  show sumTo n (λa=>trn i j c r a*vo i j c st g a b)=_
  have q:∀a,trn i j c r a*vo i j c st g a b=if a=i then (λa=>if a=j then r a*trn i j c (st g a) b+c*r i*trn i j c (st g j) b else r a*trn i j c (st g a) b) a+-(c*r i*trn i j c (st g j) b) else (λa=>if a=j then r a*trn i j c (st g a) b+c*r i*trn i j c (st g j) b else r a*trn i j c (st g a) b) a:=λa=>by
   show(if a=j then r j+c*r i else r a)*(if a=i then trn i j c (st g i) b+-c*trn i j c (st g j) b else trn i j c (st g a) b)=_
   by_cases q1:a=i
   ·subst q1;rw[qo hij,qj rfl,qj rfl];show _=(if a=j then _ else _)+_
    rw[qo hij];grind
   ·rw[qo q1,qo q1];show _=if a=j then _ else _
    by_cases q2:a=j
    ·subst q2;rw[qj rfl,qj rfl];grind
    ·rw[qo q2,qo q2]
  rw[zf n λa _=>q a,v5 _ _ n hi,v5 (λa=>r a*trn i j c (st g a) b) _ n hj];grind
 rw[e1];show _=if b=j then _ else _
 by_cases q:b=j
 ·subst q;rw[qj rfl,zf n (g:=λa=>r a*st g a b+r a*st g a i*c) λa _=>by
   show r a*(if b=b then st g a b+c*st g a i else st g a b)=_
   rw[qj rfl];grind,JU,zM]
  show led n r (st g) b+led n r (st g) i*c=_
  grind
 ·rw[qo q];exact zf n λa _=>by
   show r a*(if b=j then st g a j+c*st g a i else st g a b)=_
   rw[qo q]
theorem zcF{i j:Nat}{c:Rat}(hi:i<n)(hj:j<n)(hij:i≠j):∀(ws:LNt)(r:Q1x),wt n (vo i j c st) (trn i j c r) (trn j i (-c) la) ws=wt n st r la ws
 |[],r=>by
  show sumTo n (λa=>trn i j c r a*trn j i (-c) la a)=sumTo n λa=>r a*la a
  have q:∀a,trn i j c r a*trn j i (-c) la a=if a=i then (λa=>if a=j then r a*la a+c*r i*la j else r a*la a) a+-(c*r i*la j) else (λa=>if a=j then r a*la a+c*r i*la j else r a*la a) a:=λa=>by
   show(if a=j then r j+c*r i else r a)*(if a=i then la i+-c*la j else la a)=_
   by_cases q1:a=i
   ·subst q1;rw[qo hij,qj rfl,qj rfl];show _=(if a=j then _ else _)+_
    rw[qo hij];grind
   ·rw[qo q1,qo q1];show _=if a=j then _ else _
    by_cases q2:a=j
    ·subst q2;rw[qj rfl,qj rfl];grind
    ·rw[qo q2,qo q2]
  rw[zf n λa _=>q a,v5 _ _ n hi,v5 (λa=>r a*la a) _ n hj];grind
 |g::ws,r=>by
  show wt n (vo i j c st) (led n (trn i j c r) (vo i j c st g)) (trn j i (-c) la) ws=wt n st (led n r (st g)) la ws
  rw[show led n (trn i j c r) (vo i j c st g)=trn i j c (led n r (st g)) from funext λb=>zaJ hi hj hij r g b];exact zcF hi hj hij ws _
theorem UA:∀(ws:LNt)(r:Q1x),(∀x,x<n->r x=0)->wt n st r la ws=0
 |[],r,h=>by
  show sumTo n (λa=>r a*la a)=0
  rw[zf n (g:=λ_=>0) λa ha=>by rw[h a ha];exact kK _,jP]
 |g::ws,r,h=>by
  show wt n st (led n r (st g)) la ws=0
  refine UA ws _ λx _=>?_
  show sumTo n (λa=>r a*st g a x)=0
  rw[zf n (g:=λ_=>0) λa ha=>by rw[h a ha];exact kK _,jP]
def zcd(ws:LNt)(r:Q1x):wt n st r (λ_=>0) ws=0:=by
 show sumTo n (λa=>zN n st r ws a*0)=0
 rw[zf n (g:=λ_=>0) λa _=>gA _,jP]
end
end L2.Fu
namespace WD.DT
theorem yu{f g:Z1x}:∀n,(∀i,i<n->f i=g i)->yo n f=yo n g
 |0,_=>rfl
 |n+1,h=>by
  show yo n f+f n=yo n g+g n
  rw[yu n λi hi=>h i (mH hi),h n (kR n)]
theorem vR:∀n,yo n (λ_=>0)=0
 |0=>rfl
 |n+1=>by
  show yo n (λ_=>0)+0=0
  rw[vR n];rfl
theorem Vz(f:Z1x):∀n,yo n (λi=>- f i)=- yo n f
 |0=>rfl
 |n+1=>by
  show yo n (λi=>- f i)+- f n=-(yo n f+f n)
  rw[Vz f n];omega
theorem Z2(f g:Z1x):∀n,yo n (λi=>f i+g i)=yo n f+yo n g
 |0=>rfl
 |n+1=>by
  show yo n (λi=>f i+g i)+(f n+g n)=(yo n f+f n)+(yo n g+g n)
  rw[Z2 f g n];omega
theorem uA(c:Int)(f:Z1x):∀n,yo n (λi=>c*f i)=c*yo n f
 |0=>by
  show(0:Int)=c*0
  rw[mr]
 |n+1=>by
  show yo n (λi=>c*f i)+c*f n=c*(yo n f+f n)
  rw[uA c f n,Int.mul_add]
theorem WV(f:Nat->Nat->Int)(m:Nat):∀n,yo n (λa=>yo m λb=>f a b)=yo m λb=>yo n λa=>f a b
 |0=>(vR m).symm
 |n+1=>by
  show yo n (λa=>yo m λb=>f a b)+yo m (λb=>f n b)=yo m λb=>yo n (λa=>f a b)+f n b
  rw[WV f m n,Z2]
theorem zaS(f:Z1x){j:Nat}:∀n,j<n->yo n (λi=>if i=j then f i else 0)=f j
 |0,h=>absurd h (gq _)
 |n+1,h=>by
  show yo n (λi=>if i=j then f i else 0)+(if n=j then f n else 0)=f j
  by_cases e:n=j
  ·subst e;rw[qj rfl,yu n (g:=λ_=>0) λi hi=>qo (by omega),vR];omega
  ·rw[qo e,zaS f n (by omega)];omega
theorem zaZ(g:Z1x){j:Nat}:∀m,j<=m->yo m g=yo (m+1) λk=>if k=j then 0 else g (if k<j then k else k - 1)
 |0,h=>by
  have:j=0:=by omega
  subst this;rfl
 |m+1,h=>by
  show yo m g+g m=yo (m+1) (λk=>if k=j then 0 else g (if k<j then k else k - 1))+(if m+1=j then 0 else g (if m+1<j then m+1 else m+1 - 1))
  by_cases e:m+1=j
  ·rw[qj e,yu (m+1) (g:=g) λi hi=>by rw[qo (by omega),qj (by omega)]];show _=yo m g+g m+0
   omega
  ·rw[qo e,qo (by omega),<-zaZ g m (by omega)];rfl
def sg(j:Nat):Int:=if j % 2=0 then 1 else -1
def zfq(j:Nat):sg (j+1)=- sg j:=by
 unfold sg;by_cases h:j % 2=0
 ·rw[qj h,qo (by omega)]
 ·rw[qo h,qj (by omega)];rfl
def zi0(j:Nat):sg j*sg j=1:=by
 unfold sg;split<;>rfl
theorem erase_comm{α:Type}:∀(S:List α)(j k:Nat),k<j->(S.eraseIdx j).eraseIdx k=(S.eraseIdx k).eraseIdx (j - 1)
 |[],_,_,_=>rfl
 |x::S,0,k,h=>absurd h (gq _)
 |x::S,j+1,0,h=>rfl
 |x::S,j+1,k+1,h=>by
  show x::(S.eraseIdx j).eraseIdx k=(x::S.eraseIdx k).eraseIdx (j+1 - 1)
  have e:j+1 - 1=(j - 1)+1:=by omega
  rw[e,erase_comm S j k (by omega)];rfl
def zek(S:LNt){j k:Nat}(hk:k≠j):(S.eraseIdx j).getD (if k<j then k else k - 1) 0=S.getD k 0:=by
 rw[qB,qB,List.getElem?_eraseIdx];by_cases h:k<j
 ·rw[qj h,qj h]
 ·rw[qo h,qo (by omega),show k - 1+1=k by omega]
def det:List (Nat->Int)->List Nat->Int
 |[],_=>1
 |r::R,S=>yo S.length λj=>sg j*(r (S.getD j 0)*det R (S.eraseIdx j))
def zfN(r r':Z1x)(R:LZr)(S:LNt):det (r::r'::R) S=yo S.length λj=>yo S.length λk=>if k=j then 0 else
  sg j*sg (if k<j then k else k - 1)*(r (S.getD j 0)*r' (S.getD k 0))*det R ((S.eraseIdx j).eraseIdx (if k<j then k else k - 1)):=by
 show yo S.length (λj=>sg j*(r (S.getD j 0)*det (r'::R) (S.eraseIdx j)))=_
 refine yu _ λj hj=>?_
 have e:det (r'::R) (S.eraseIdx j)=yo (S.length - 1) λk=>sg k*(r' ((S.eraseIdx j).getD k 0)*det R ((S.eraseIdx j).eraseIdx k)):=by
  show yo (S.eraseIdx j).length _=_
  rw[gK hj]
 rw[e,zaZ _ (j:=j) (S.length - 1) (by omega),show S.length - 1+1=S.length by omega,<-Int.mul_assoc,<-uA];refine yu _ λk hk=>?_
 by_cases h:k=j
 ·rw[qj h,qj h,mr]
 ·rw[qo h,qo h,zek S h];generalize sg (if k<j then k else k - 1)=a;generalize det R _=d;grind
def zc4(r r':Z1x)(R:LZr)(S:LNt):det (r::r'::R) S=- det (r'::r::R) S:=by
 rw[zfN r r',zfN r' r,WV,<-Vz];refine yu _ λk hk=>?_
 rw[<-Vz];refine yu _ λj hj=>?_
 by_cases h:k=j
 ·subst h;rw[qj rfl,qj rfl];rfl
 ·rw[qo h,qo (gG h)];by_cases hl:k<j
  ·rw[qj hl,qo (by omega),erase_comm S j k hl];obtain⟨i,rfl⟩:∃i,j=i+1:=⟨j - 1,by omega⟩;rw[show i+1 - 1=i by omega,zfq];generalize det R _=d;grind
  ·have hl:j<k:=by omega
   rw[qo (by omega),qj hl,erase_comm S k j hl];obtain⟨i,rfl⟩:∃i,k=i+1:=⟨k - 1,by omega⟩;rw[show i+1 - 1=i by omega,zfq];generalize det R _=d;grind
theorem zfs{r:Z1x}:∀{R:LZr} (S:LNt),r∈R->det (r::R) S=0
 |[],_,h=>by cases h
 |b::R,S,h=>by
  rcases qx.mp h with z|z
  ·subst z
   have:=zc4 r r R S;omega
  ·rw[zc4];show -(yo S.length λj=>sg j*(b (S.getD j 0)*det (r::R) (S.eraseIdx j)))=0
   rw[yu S.length (g:=λ_=>0) λj hj=>by rw[zfs _ z,mr,mr],vR];rfl
def vec(R:LZr)(S:LNt)(x:Nat):Int:=yo S.length λj=>if S.getD j 0=x then sg j*det R (S.eraseIdx j) else 0
def zbZ{n:Nat}{S:LNt}(R:LZr)(r:Z1x)(h:∀x∈S,x<n):yo n (λx=>vec R S x*r x)=det (r::R) S:=by
 have e:∀x,vec R S x*r x=yo S.length λj=>if x=S.getD j 0 then r x*(sg j*det R (S.eraseIdx j)) else 0:=λx=>by
  unfold vec;rw[Int.mul_comm,<-uA];refine yu _ λj _=>?_
  by_cases q:S.getD j 0=x
  ·rw[qj q,qj q.symm]
  ·rw[qo q,qo (gG q),mr]
 rw[yu n λx _=>e x,WV];refine yu _ λj hj=>?_
 rw[zaS _ n (h _ ?_)]
 ·generalize det R _=d;grind
 ·rw[qB,qk hj];exact gy hj
def zdA{n:Nat}{S:LNt}{R:LZr}{r:Z1x}(h:∀x∈S,x<n)(hr:r∈R):yo n (λx=>vec R S x*r x)=0:=by
 rw[zbZ R r h,zfs S hr]
def zfI{R:LZr}{S:LNt}{x:Nat}(h:x∉S):vec R S x=0:=by
 unfold vec;rw[yu S.length (g:=λ_=>0) λj hj=>qo λq=>h ?_,vR];rw[<-q,qB,qk hj];exact gy hj
def zdn{R:LZr}{T:LNt}{f:Nat}(h:f∉T):vec R (T++[f]) f=sg T.length*det R T:=by
 unfold vec;rw[qy];show yo T.length (λj=>if (T++[f]).getD j 0=f then sg j*det R ((T++[f]).eraseIdx j) else 0)+(if (T++[f]).getD T.length 0=f then sg T.length*det R ((T++[f]).eraseIdx T.length) else 0)=_
 rw[yu T.length (g:=λ_=>0) λj hj=>qo λq=>h ?_,vR,qj,pI (qf _),gm]
 ·rw[show[f].eraseIdx 0=[] from rfl,kj];omega
 ·rw[qB,qz (qf _),gm];rfl
 ·rw[<-q,qB,qK hj,qk hj];exact gy hj
abbrev dt(n:Nat)(f g:Z1x):Int:=yo n λx=>f x*g x
abbrev dq(n:Nat)(f g:Q1x):Rat:=sumTo n λx=>f x*g x
abbrev rt(f:Z1x):Nat->Rat:=λx=>(f x:Rat)
def Vs{n:Nat}(f g:Z1x):dq n (rt f) (rt g)=((dt n f g:Int):Rat):=by
 unfold dq dt rt;rw[Jy];exact zf n λi _=>(ki _ _).symm
def zhp{n:Nat}(a b:Int)(f g h:Z1x):dt n (λx=>a*f x - b*g x) h=a*dt n f h - b*dt n g h:=by
 unfold dt;rw[<-uA,<-uA,Int.sub_eq_add_neg,<-Vz,<-Z2];exact yu n λi _=>by grind
def zch{n:Nat}(a:Int)(f h:Z1x):dt n (λx=>a*f x) h=a*dt n f h:=by
 unfold dt;rw[<-uA];exact yu n λi _=>by grind
def ZH{n:Nat}{f f' h:Z1x}(e:∀x,x<n->f x=f' x):dt n f h=dt n f' h:=yu n λi hi=>by rw[e i hi]
theorem yx:∀n,sumTo n (λ_=>(0:Rat))=0
 |0=>rfl
 |n+1=>by
  show sumTo n (λ_=>(0:Rat))+0=0
  rw[yx n];grind
theorem xx(f:Q2x)(m:Nat):∀n,sumTo n (λa=>sumTo m λb=>f a b)=sumTo m λb=>sumTo n λa=>f a b
 |0=>(yx m).symm
 |n+1=>by
  show sumTo n (λa=>sumTo m λb=>f a b)+sumTo m (λb=>f n b)=sumTo m λb=>sumTo n (λa=>f a b)+f n b
  rw[xx f m n,JU]
theorem yR(f:Q1x){j:Nat}:∀n,j<n->(∀i,i<n->i≠j->f i=0)->sumTo n f=f j
 |0,h,_=>absurd h (gq _)
 |n+1,h,k=>by
  show sumTo n f+f n=f j
  by_cases e:n=j
  ·subst e;rw[zf n (g:=λ_=>0) λi hi=>k i (by omega) (by omega),yx];grind
  ·rw[yR f n (by omega) λi hi=>k i (by omega),k n (by omega) e];grind
theorem zaX(u v:Q1x):∀n,sumTo n u - sumTo n v=sumTo n λx=>u x - v x
 |0=>by
  show(0:Rat) - 0=0
  grind
 |n+1=>by
  have:=zaX u v n;show(sumTo n u+u n) - (sumTo n v+v n)=sumTo n (λx=>u x - v x)+(u n - v n)
  rw[<-this];grind
def zaf{n:Nat}(a b:Rat)(f g h:Q1x):dq n (λx=>a*f x - b*g x) h=a*dq n f h - b*dq n g h:=by
 have e1:a*sumTo n (λx=>f x*h x)=sumTo n λx=>f x*h x*a:=by rw[zM];exact kX _ _
 have e2:b*sumTo n (λx=>g x*h x)=sumTo n λx=>g x*h x*b:=by rw[zM];exact kX _ _
 show sumTo n (λx=>(a*f x - b*g x)*h x)=a*sumTo n (λx=>f x*h x) - b*sumTo n (λx=>g x*h x)
 rw[e1,e2,zaX];exact zf n λi _=>by clear e1 e2;grind
def In(n:Nat)(R:LZr)(x:Q1x):Prop:=∀w:Nat->Rat,(∀r∈R,dq n w (rt r)=0)->dq n w x=0
structure Sp(n:Nat)(R:LZr)(T F:LNt)(C:LZr)(d:Int):Prop where
 d0:d≠0
 mem:∀x,x∈T++F↔x<n
 nd:(T++F).Nodup
 lenC:C.length=F.length
 ex:∃e:Int,e*e=1/\d=e*det R T/\∀(i:Nat)(c:Z1x)(f:Nat),C[i]?=some c->F[i]?=some f->∀x,x<n->c x=e*sg T.length*vec R (T++[f]) x
 ind:∀w:Nat->Rat,(∀x,x<n->x∉T->w x=0)->(∀r∈R,dq n w (rt r)=0)->∀x,x<n->w x=0
section
variable{n:Nat}{R:LZr}{T F:LNt}{C:LZr}{d:Int}
def Sp.free(h:Sp n R T F C d){i f:Nat}(hf:F[i]?=some f):f<n/\f∉T:=by
 have hm:f∈F:=qN hf;exact⟨(h.mem f).mp (qr.mpr (.inr hm)),λz=>(gp.mp h.nd).2.2 f z f hm rfl⟩
def Sp.lt(h:Sp n R T F C d){i f:Nat}(hf:F[i]?=some f):∀x∈T++[f],x<n:=λx hx=>by
 rcases qr.mp hx with z|z
 ·exact(h.mem x).mp (qr.mpr (.inl z))
 ·rw[qQ.mp z];exact(h.free hf).1
def Sp.at(h:Sp n R T F C d){i f:Nat}{c:Z1x}(hc:C[i]?=some c)(hf:F[i]?=some f):c f=d:=by
 have⟨e,e1,e2,e3⟩:=h.ex;have⟨h1,h2⟩:=h.free hf;rw[e3 i c f hc hf f h1,zdn h2,e2]
 have:=zi0 T.length;grind
def Sp.out(h:Sp n R T F C d){i f x:Nat}{c:Z1x}(hc:C[i]?=some c)(hf:F[i]?=some f)(hx:x<n)(ht:x∉T)(hne:x≠f):c x=0:=by
 have⟨e,e1,e2,e3⟩:=h.ex;rw[e3 i c f hc hf x hx,zfI (λz=>?_),mr];rcases qr.mp z with z|z
 ·exact ht z
 ·exact hne (qQ.mp z)
def Sp.orth(h:Sp n R T F C d){i f:Nat}{c r:Z1x}(hc:C[i]?=some c)(hf:F[i]?=some f)(hr:r∈R):dt n c r=0:=by
 have⟨e,e1,e2,e3⟩:=h.ex;rw[ZH (f':=λx=>(e*sg T.length)*vec R (T++[f]) x) λx hx=>e3 i c f hc hf x hx,zch,show dt n (vec R (T++[f])) r=0 from zdA (h.lt hf) hr,mr]
def VP{α:Type}{l:List α}{i:Nat}{a b:α}(h:l[i]?=some a):l.getD i b=a:=by
 rw[qB,h];rfl
def zct{l:LNt}(h:l.Nodup){i j a b:Nat}(ha:l[i]?=some a)(hb:l[j]?=some b)(hij:i≠j):a≠b:=λe=>by
 subst e;obtain⟨hi,e1⟩:=qg.mp ha;obtain⟨hj,e2⟩:=qg.mp hb;rcases Nat.lt_or_gt_of_ne hij with q|q
 ·exact gr.mp h i j hi hj q (e1.trans e2.symm)
 ·exact gr.mp h j i hj hi q (e2.trans e1.symm)
def Sp.ndF(h:Sp n R T F C d):F.Nodup:=(gp.mp h.nd).2.1
def xt(i:Nat):Nat->Int:=λx=>if x=i then 1 else 0
def ziT(n:Nat):Sp n [] [] (List.range n) ((List.range n).map xt) 1 where
 d0:=by decide
 mem:=λx=>by simp
 nd:=by simpa using nN
 lenC:=by simp
 ex:=⟨1,rfl,rfl,λi c f hc hf x hx=>by
  rw[qq] at hc;obtain⟨hi,e⟩:=qg.mp hf;rw[hf] at hc;cases hc;show xt f x=1*1*(0+(if f=x then sg 0*1 else 0))
  unfold xt;by_cases q:x=f
  ·rw[qj q,qj q.symm];rfl
  ·rw[qo q,qo (gG q)];rfl⟩
 ind:=λw h _ x hx=>h x hx (by simp)
def Sp.holds(h:Sp n R T F C d)(x:Q1x):(∀c∈C,dq n (rt c) x=0)↔In n R x:=by
 constructor
 ·intro hc w hw;have hz:(d:Rat)≠0:=λz=>h.d0 (by exact_mod_cast z)
  have key:∀y,y<n->(d:Rat)*w y - 1*sumTo F.length (λi=>w (F.getD i 0)*((C.getD i λ_=>0) y:Rat))=0:=by
   refine h.ind _ (λy hy ht=>?_) λr hr=>?_
   ·have hyF:y∈F:=by
     rcases qr.mp ((h.mem y).mpr hy) with z|z
     ·exact absurd z ht
     ·exact z
    obtain⟨k,hk⟩:=qP hyF;obtain⟨hkl,_⟩:=qg.mp hk;obtain⟨c,hck⟩:∃c,C[k]?=some c:=⟨_,qk (by rw[h.lenC];exact hkl)⟩;rw[yR _ (j:=k) _ hkl λi hi hik=>?_]
    ·rw[VP hk,VP hck];show(d:Rat)*w y - 1*(w y*(c y:Rat))=0
     rw[h.at hck hk];grind
    ·obtain⟨c',hci⟩:∃c,C[i]?=some c:=⟨_,qk (by rw[h.lenC];exact hi)⟩;obtain⟨f',hfi⟩:∃f,F[i]?=some f:=⟨_,qk hi⟩;rw[VP (l:=C) hci];show _*((c' y:Int):Rat)=0
     rw[h.out hci hfi hy ht (zct h.ndF hk hfi (gG hik))];exact gA _
   ·rw[zaf];rw[hw r hr]
    have:dq n (λy=>sumTo F.length λi=>w (F.getD i 0)*((C.getD i λ_=>0) y:Rat)) (rt r)=0:=by
     unfold dq;rw[zf n (g:=λy=>sumTo F.length λi=>w (F.getD i 0)*((C.getD i λ_=>0) y:Rat)*(rt r) y) λy _=>(zM _ _ _).symm,xx,zf F.length (g:=λ_=>0) λi hi=>?_,yx];obtain⟨c',hci⟩:∃c,C[i]?=some c:=⟨_,qk (by rw[h.lenC];exact hi)⟩;obtain⟨f',hfi⟩:∃f,F[i]?=some f:=⟨_,qk hi⟩;rw[VP (l:=C) hci];show sumTo n (λy=>w (F.getD i 0)*(c' y:Rat)*(r y:Rat))=0
     rw[zf n (g:=λy=>((c' y:Rat)*(r y:Rat))*w (F.getD i 0)) λy _=>by grind,zM];have e:sumTo n (λy=>(c' y:Rat)*(r y:Rat))=dq n (rt c') (rt r):=rfl;rw[e,Vs,h.orth hci hfi hr];exact kK _
    rw[this];grind
  have e1:(d:Rat)*dq n w x - 1*dq n (λy=>sumTo F.length λi=>w (F.getD i 0)*((C.getD i λ_=>0) y:Rat)) x=0:=by
   rw[<-zaf];unfold dq;rw[zf n (g:=λ_=>0) λy hy=>(qR (·*_) (key y hy)).trans (kK _),yx]
  have e2:dq n (λy=>sumTo F.length λi=>w (F.getD i 0)*((C.getD i λ_=>0) y:Rat)) x=0:=by
   unfold dq;rw[zf n (g:=λy=>sumTo F.length λi=>w (F.getD i 0)*((C.getD i λ_=>0) y:Rat)*x y) λy _=>(zM _ _ _).symm,xx,zf F.length (g:=λ_=>0) λi hi=>?_,yx];obtain⟨c',hci⟩:∃c,C[i]?=some c:=⟨_,qk (by rw[h.lenC];exact hi)⟩;rw[VP (l:=C) hci];show sumTo n (λy=>w (F.getD i 0)*(c' y:Rat)*x y)=0
   rw[zf n (g:=λy=>((c' y:Rat)*x y)*w (F.getD i 0)) λy _=>by grind,zM];have e:sumTo n (λy=>(c' y:Rat)*x y)=dq n (rt c') x:=rfl;rw[e,hc c' (qN hci)];exact kK _
  rw[e2] at e1;have e3:(d:Rat)*dq n w x=0:=by grind
  rcases kP.mp e3 with z|z
  ·exact absurd z hz
  ·exact z
 ·intro hx c hc;obtain⟨i,hi⟩:=qP hc;obtain⟨hil,_⟩:=qg.mp hi;obtain⟨f,hf⟩:∃f,F[i]?=some f:=⟨_,qk (by rw[<-h.lenC];exact hil)⟩;exact hx (rt c) λr hr=>by rw[Vs,h.orth hi hf hr];rfl
def nar(p d s:Int)(g c:Z1x):Nat->Int:=λx=>(p*c x - s*g x).fdiv d
def Sp.ind'(h:Sp n R T F C d){i g:Nat}{cg r:Z1x}(hc:C[i]?=some cg)(hg:F[i]?=some g)(hp:dt n cg r≠0):∀w:Nat->Rat,(∀x,x<n->x∉T++[g]->w x=0)->(∀ρ∈r::R,dq n w (rt ρ)=0)->∀x,x<n->w x=0:=by
 intro w hs ho;have⟨g1,g2⟩:=h.free hg;have hz:(d:Rat)≠0:=λz=>h.d0 (by exact_mod_cast z)
 have hpz:((dt n cg r:Int):Rat)≠0:=λz=>hp (by exact_mod_cast z)
 have key:∀x,x<n->(d:Rat)*w x - w g*(rt cg) x=0:=by
  refine h.ind _ (λx hx ht=>?_) λρ hr=>?_
  ·by_cases q:x=g
   ·subst q;show(d:Rat)*w x - w x*((cg x:Int):Rat)=0
    rw[h.at hc hg];grind
   ·show(d:Rat)*w x - w g*((cg x:Int):Rat)=0
    rw[h.out hc hg hx ht q,hs x hx λz=>by
     rcases qr.mp z with z|z
     ·exact ht z
     ·exact q (qQ.mp z)]
    show(d:Rat)*0 - w g*0=0
    grind
  ·rw[zaf,ho ρ (.tail _ hr),Vs,h.orth hc hg hr];show(d:Rat)*0 - w g*0=0
   grind
 have e:(d:Rat)*dq n w (rt r) - w g*dq n (rt cg) (rt r)=0:=by
  rw[<-zaf];unfold dq;rw[zf n (g:=λ_=>0) λy hy=>(qR (·*_) (key y hy)).trans (kK _),yx]
 rw[ho r (.head _),Vs] at e;have e2:w g*((dt n cg r:Int):Rat)=0:=by grind
 have wg:w g=0:=by
  rcases kP.mp e2 with z|z
  ·exact z
  ·exact absurd z hpz
 intro x hx
 have:=key x hx;rw[wg] at this;have e3:(d:Rat)*w x=0:=by grind
 rcases kP.mp e3 with z|z
 ·exact absurd z hz
 ·exact z
def zcu{α:Type}(l:List α)(i j:Nat):(l.eraseIdx i)[j]?=l[if j<i then j else j+1]?:=by
 rw[List.getElem?_eraseIdx];by_cases h:j<i
 ·rw[qj h,qj h]
 ·rw[qo h,qo h]
theorem Y0{α:Type}{a:α}:∀(l:List α)(i:Nat),l[i]?=some a->(a::l.eraseIdx i).Perm l
 |[],i,h=>by simp at h
 |x::l,0,h=>by
  have:x=a:=by simpa using h
  subst this;exact List.Perm.refl _
 |x::l,i+1,h=>by
  have ih:=Y0 l i (by simpa using h);exact(List.Perm.swap x a _).trans (ih.cons x)
def Sp.nar(h:Sp n R T F C d){i g:Nat}{cg r:Z1x}(hc:C[i]?=some cg)(hg:F[i]?=some g)(hp:dt n cg r≠0){e:Int}(e2:d=e*det R T)(e3:∀(i:Nat)(c:Z1x)(f:Nat),C[i]?=some c->F[i]?=some f->∀x,x<n->c x=e*sg T.length*vec R (T++[f]) x){k f:Nat}{c:Z1x}(hk:C[k]?=some c)(hf:F[k]?=some f)(hki:k≠i):∀x,x<n->DT.nar (dt n cg r) d (dt n c r) cg c x=e*sg T.length*sg (T++[g]).length*vec (r::R) (T++[g]++[f]) x:=by
 have hfg:f≠g:=zct h.ndF hf hg hki;have⟨f1,f2⟩:=h.free hf
 have⟨g1,g2⟩:=h.free hg;have hfT:f∉T++[g]:=λz=>by
  rcases qr.mp z with z|z
  ·exact f2 z
  ·exact hfg (qQ.mp z)
 have hlt:∀x∈T++[g]++[f],x<n:=λx hx=>by
  rcases qr.mp hx with z|z
  ·exact h.lt hg x z
  ·rw[qQ.mp z];exact f1
 have ep:dt n cg r=e*sg T.length*det (r::R) (T++[g]):=by
  rw[ZH (f':=λx=>(e*sg T.length)*vec R (T++[g]) x) λx hx=>e3 i cg g hc hg x hx,zch,show dt n (vec R (T++[g])) r=det (r::R) (T++[g]) from zbZ R r (h.lt hg)]
 have key:=h.ind' hc hg hp (λx=>((d*(e*sg T.length*sg (T++[g]).length*vec (r::R) (T++[g]++[f]) x) - 1*(dt n cg r*c x - dt n c r*cg x):Int):Rat)) (λx hx ht=>?_) (λρ hr=>?_)
 ·intro x hx;have q:d*(e*sg T.length*sg (T++[g]).length*vec (r::R) (T++[g]++[f]) x) - 1*(dt n cg r*c x - dt n c r*cg x)=0:=by exact_mod_cast key x hx
  unfold DT.nar;rw[show dt n cg r*c x - dt n c r*cg x=d*(e*sg T.length*sg (T++[g]).length*vec (r::R) (T++[g]++[f]) x) by omega];exact nI _ h.d0
 ·have q:d*(e*sg T.length*sg (T++[g]).length*vec (r::R) (T++[g]++[f]) x) - 1*(dt n cg r*c x - dt n c r*cg x)=0:=by
   have htT:x∉T:=λz=>ht (qr.mpr (.inl z))
   have hxg:x≠g:=λz=>ht (qr.mpr (.inr (by rw[z];exact .head _)))
   by_cases hxf:x=f
   ·subst hxf;rw[zdn hfT,h.at hk hf,h.out hc hg hx htT hxg,ep]
    have:=zi0 (T++[g]).length;generalize det (r::R) (T++[g])=D at*;generalize sg (T++[g]).length=a at*;grind
   ·rw[zfI (λz=>?_),h.out hk hf hx htT hxf,h.out hc hg hx htT hxg]
    ·simp
    ·rcases qr.mp z with z|z
     ·exact ht z
     ·exact hxf (qQ.mp z)
  exact_mod_cast q
 ·have q:dt n (λx=>d*(e*sg T.length*sg (T++[g]).length*vec (r::R) (T++[g]++[f]) x) - 1*(dt n cg r*c x - dt n c r*cg x)) ρ=0:=by
   rw[zhp d 1 (λx=>e*sg T.length*sg (T++[g]).length*vec (r::R) (T++[g]++[f]) x) (λx=>dt n cg r*c x - dt n c r*cg x) ρ,zhp,zch,show dt n (vec (r::R) (T++[g]++[f])) ρ=0 from zdA hlt hr];rcases qx.mp hr with z|z
   ·subst z;rw[Int.mul_comm (dt n c ρ)];simp
   ·rw[h.orth hk hf z,h.orth hc hg z];simp
  have:=Vs (n:=n) (λx=>d*(e*sg T.length*sg (T++[g]).length*vec (r::R) (T++[g]++[f]) x) - 1*(dt n cg r*c x - dt n c r*cg x)) ρ;rw[q] at this;exact this
def Sp.take(h:Sp n R T F C d){i g:Nat}{cg r:Z1x}(hc:C[i]?=some cg)(hg:F[i]?=some g)(hp:dt n cg r≠0):Sp n (r::R) (T++[g]) (F.eraseIdx i) ((C.eraseIdx i).map λc=>DT.nar (dt n cg r) d (dt n c r) cg c) (dt n cg r):=by
 have⟨e,e1,e2,e3⟩:=h.ex;obtain⟨hi,eg⟩:=qg.mp hg;have pm:(T++[g]++F.eraseIdx i).Perm (T++F):=by
  rw[gU];refine List.Perm.append_left T ?_;exact Y0 F i hg
 refine⟨hp,λx=>?_,pm.nodup_iff.mpr h.nd,?_,⟨e*sg T.length,?_,?_,λj c' f hj hf x hx=>?_⟩,h.ind' hc hg hp⟩
 ·rw[pm.mem_iff];exact h.mem x
 ·rw[qe,gK hi,gK (by rw[h.lenC];exact hi),h.lenC]
 ·have:=zi0 T.length;grind
 ·rw[ZH (f':=λx=>(e*sg T.length)*vec R (T++[g]) x) λx hx=>e3 i cg g hc hg x hx,zch,show dt n (vec R (T++[g])) r=det (r::R) (T++[g]) from zbZ R r (h.lt hg)]
 ·rw[zcu] at hf;rw[qq,zcu] at hj;cases hk:C[if j<i then j else j+1]? with
  |none=>rw[hk] at hj;cases hj
  |some c=>
   rw[hk] at hj;cases hj;exact h.nar hc hg hp e2 e3 hk hf (by split<;>omega) x hx
end
def cd(s:Nat)(w:LNt):Nat:=w.foldl (λc a=>c*s+a+1) 0
def wx(s:Nat)(w:LNt)(a:Nat):cd s (w++[a])=cd s w*s+a+1:=by
 unfold cd;rw[List.foldl_append];rfl
def ziY(s:Nat)(hs:0<s)(w:LNt)(a:Nat):cd s w<cd s (w++[a]):=by
 rw[wx]
 have:cd s w<=cd s w*s:=nM _ hs;omega
def zj1{s:Nat}{v w:LNt}(h:cd s v<=cd s w)(a:Nat):cd s (v++[a])<=cd s (w++[a]):=by
 rw[wx,wx]
 have:cd s v*s<=cd s w*s:=qZ _ h;omega
def zj0{s:Nat}{v w:LNt}(h:cd s v<cd s w){a b:Nat}(ha:a<s):cd s (v++[a])<cd s (w++[b]):=by
 rw[wx,wx]
 have:(cd s v+1)*s<=cd s w*s:=qZ _ h;rw[Nat.add_mul] at this;omega
def zfC(w:LNt):w=[]\/∃v a,w=v++[a]:=by
 rcases List.eq_nil_or_concat w with h|⟨v,a,h⟩
 ·exact .inl h
 ·exact .inr ⟨v,a,by rw[h,List.concat_eq_append]⟩
def queue(s:Nat)(kept:List (List Nat)):List (List Nat):=[]::kept.flatMap λv=>(List.range s).map λa=>v++[a]
def Z4(s:Nat)(kept:List (List Nat))(u:LNt):queue s (kept++[u])=queue s kept++(List.range s).map λa=>u++[a]:=by
 unfold queue;rw[pq];simp
def JZ{s:Nat}{kept:List (List Nat)}{u:LNt}:u∈queue s kept↔u=[]\/∃v∈kept,∃a,a<s/\u=v++[a]:=by
 unfold queue;rw[qx,List.mem_flatMap];constructor
 ·rintro(h|⟨v,hv,h⟩)
  ·exact .inl h
  ·obtain⟨a,ha,rfl⟩:=qT.mp h;exact .inr ⟨v,hv,a,qE.mp ha,rfl⟩
 ·rintro(h|⟨v,hv,a,ha,rfl⟩)
  ·exact .inl h
  ·exact .inr ⟨v,hv,qT.mpr ⟨a,qE.mpr ha,rfl⟩⟩
def We{s:Nat}{kept:List (List Nat)}(h:kept.Pairwise λv w=>cd s v<cd s w):(queue s kept).Pairwise λv w=>cd s v<cd s w:=by
 unfold queue;rw[List.pairwise_cons];constructor
 ·intro u hu;have⟨v,hv,h⟩:=pP.mp hu;obtain⟨a,ha,rfl⟩:=qT.mp h;rw[wx];show 0<_
  omega
 ·rw[List.pairwise_flatMap];constructor
  ·intro v hv;rw[List.pairwise_map];refine List.Pairwise.imp ?_ List.pairwise_lt_range;intro a b hab;rw[wx,wx];omega
  ·refine List.Pairwise.imp ?_ h;intro v w hvw x hx y hy;obtain⟨a,ha,rfl⟩:=qT.mp hx;obtain⟨b,hb,rfl⟩:=qT.mp hy;exact zj0 hvw (qE.mp ha)
def InK(n s:Nat)(row:List Nat->Nat->Rat)(kept:List (List Nat))(B:Nat)(x:Q1x):Prop:=∀w:Nat->Rat,(∀v∈kept,cd s v<B->dq n w (row v)=0)->dq n w x=0
def zb3{n:Nat}(w r:Q1x)(M:Q2x):dq n w (led n r M)=dq n (λx=>sumTo n λb=>M x b*w b) r:=by
 show sumTo n (λb=>w b*sumTo n λa=>r a*M a b)=sumTo n λa=>(sumTo n λb=>M a b*w b)*r a
 rw[zf n (g:=λb=>sumTo n λa=>r a*M a b*w b) λb _=>by rw[zM];exact kX _ _,xx];exact zf n λa _=>by
  rw[<-zM];exact zf n λb _=>by grind
section
variable{n s:Nat}{st:Q3x}{fi:Q1x}{kept:List (List Nat)}
def vS(v:LNt)(a:Nat):zN n st fi (v++[a])=led n (zN n st fi v) (st a):=by
 rw[wO];rfl
theorem WM{N:Nat}(hs:0<s)(h:∀u∈queue s kept,cd s u<N->InK n s (zN n st fi) kept (cd s u+1) (zN n st fi u)):∀(k:Nat)(w:LNt),w.length=k->(∀g∈w,g<s)->cd s w<N->InK n s (zN n st fi) kept (cd s w+1) (zN n st fi w)
 |0,w,hk,_,hN=>by
  have:w=[]:=gB.mp hk;subst this;exact h [] (JZ.mpr (.inl rfl)) hN
 |k+1,w,hk,hg,hN=>by
  rcases zfC w with e|⟨v,a,e⟩
  ·rw[e] at hk;cases hk
  ·subst e;have ha:a<s:=hg a (by simp);have ih:=WM hs h k v (by simpa using hk) (λg q=>hg g (by simp[q])) (pM (ziY s hs v a) hN)
   intro c hc;rw[vS,zb3];refine ih _ λμ hμ hlt=>?_
   rw[<-zb3,<-vS];have hle:cd s (μ++[a])<=cd s (v++[a]):=zj1 (by omega) a;exact h _ (JZ.mpr (.inr ⟨μ,hμ,a,ha,rfl⟩)) (by omega) c λμ' hμ' hl'=>hc μ' hμ' (by omega)
structure Rc(n s:Nat)(st:Q3x)(fi:Q1x)(kept:List (List Nat))(a:Nat):Prop where
 le:a<=(queue s kept).length
 srt:kept.Pairwise λv w=>cd s v<cd s w
 sub:∀v∈kept,∃i,i<a/\(queue s kept)[i]?=some v
 ok:∀(i:Nat)(u:LNt),i<a->(queue s kept)[i]?=some u->InK n s (zN n st fi) kept (cd s u+1) (zN n st fi u)
def zlJ:Rc n s st fi [] 0:=⟨kE _,.nil,λ_ h=>(by cases h),λ_ _ h=>absurd h (gq _)⟩
def Rc.ahead(h:Rc n s st fi kept a){u:LNt}(hu:(queue s kept)[a]?=some u):∀v∈kept,cd s v<cd s u:=λv hv=>by
 have⟨i,hi,e⟩:=h.sub v hv;obtain⟨h1,e1⟩:=qg.mp e;obtain⟨h2,e2⟩:=qg.mp hu
 have:=gr.mp (We h.srt) i a h1 h2 hi;rw[e1,e2] at this;exact this
def Rc.skip(h:Rc n s st fi kept a){u:LNt}(hu:(queue s kept)[a]?=some u)(hin:∀w:Nat->Rat,(∀v∈kept,dq n w (zN n st fi v)=0)->dq n w (zN n st fi u)=0):Rc n s st fi kept (a+1):=by
 obtain⟨h2,e2⟩:=qg.mp hu;refine⟨h2,h.srt,λv hv=>?_,λi x hi hx=>?_⟩
 ·have⟨i,hi,e⟩:=h.sub v hv;exact⟨i,by omega,e⟩
 ·by_cases q:i=a
  ·subst q;rw[hu] at hx;cases hx;exact λw hw=>hin w λv hv=>hw v hv (mH (h.ahead hu v hv))
  ·exact h.ok i x (by omega) hx
def Rc.keep(h:Rc n s st fi kept a){u:LNt}(hu:(queue s kept)[a]?=some u):Rc n s st fi (kept++[u]) (a+1):=by
 obtain⟨h2,e2⟩:=qg.mp hu;have old:∀i,i<(queue s kept).length->(queue s (kept++[u]))[i]?=(queue s kept)[i]?:=λi hi=>by rw[Z4,qK hi]
 have more:∀B x,InK n s (zN n st fi) kept B x->InK n s (zN n st fi) (kept++[u]) B x:=λB x q w hw=>q w λv hv hl=>hw v (qr.mpr (.inl hv)) hl
 refine⟨?_,?_,λv hv=>?_,λi x hi hx=>?_⟩
 ·rw[Z4,qy];omega
 ·rw[List.pairwise_append];exact⟨h.srt,List.pairwise_singleton _ _,λv hv w hw=>by rw[qQ.mp hw];exact h.ahead hu v hv⟩
 ·rcases qr.mp hv with z|z
  ·have⟨i,hi,e⟩:=h.sub v z;exact⟨i,by omega,by rw[old i (by omega)];exact e⟩
  ·rw[qQ.mp z];exact⟨a,kR a,by rw[old a h2];exact hu⟩
 ·rw[old i (by omega)] at hx;by_cases q:i=a
  ·subst q;rw[hu] at hx;cases hx;exact λw hw=>hw u (qr.mpr (.inr (.head _))) (kR _)
  ·exact more _ _ (h.ok i x (by omega) hx)
def Rc.known(h:Rc n s st fi kept a){N:Nat}(hN:∀(i:Nat)(u:LNt),(queue s kept)[i]?=some u->cd s u<N->i<a):∀u∈queue s kept,cd s u<N->InK n s (zN n st fi) kept (cd s u+1) (zN n st fi u):=λu hu hl=>by
 obtain⟨i,hi⟩:=qP hu;exact h.ok i u (hN i u hi hl) hi
def Rc.done(h:Rc n s st fi kept a)(hs:0<s)(hd:(queue s kept).length<=a)(w:LNt)(hg:∀g∈w,g<s):∀c:Nat->Rat,(∀v∈kept,dq n c (zN n st fi v)=0)->dq n c (zN n st fi w)=0:=λc hc=>
 WM (N:=cd s w+1) hs (h.known λi u hi _=>q9 (qg.mp hi).1 hd) _ w rfl hg (kR _) c λv hv _=>hc v hv
def Rc.before(h:Rc n s st fi kept a)(hs:0<s){u:LNt}(hu:(queue s kept)[a]?=some u)(w:LNt)(hg:∀g∈w,g<s)(hw:cd s w<cd s u):∀c:Nat->Rat,(∀v∈kept,dq n c (zN n st fi v)=0)->dq n c (zN n st fi w)=0:=λc hc=>by
 refine WM (N:=cd s u) hs (h.known λi x hi hl=>?_) _ w rfl hg hw c λv hv _=>hc v hv
 obtain⟨h1,e1⟩:=qg.mp hi;obtain⟨h2,e2⟩:=qg.mp hu;rcases pL i a with q|q|q
 ·exact q
 ·subst q;rw[hi] at hu;cases hu;omega
 ·have:=gr.mp (We h.srt) a i h2 h1 q;rw[e1,e2] at this;omega
def Rc.short(h:Rc n s st fi kept a)(hs:0<s):∀(i:Nat)(v:LNt),kept[i]?=some v->v.length<=i:=by
 intro i;induction i using Nat.strongRecOn with
 |_ i ih=>
  intro v hv;obtain⟨j,hj,e⟩:=h.sub v (qN hv);rcases JZ.mp (qN e) with q|⟨μ,hμ,b,hb,q⟩
  ·subst q;exact kE _
  ·subst q;obtain⟨k,hk⟩:=qP hμ;obtain⟨h1,e1⟩:=qg.mp hk;obtain⟨h2,e2⟩:=qg.mp hv;have hlt:=ziY s hs μ b;have hki:k<i:=by
    rcases pL k i with q|q|q
    ·exact q
    ·subst q;rw[hk] at hv
     have:=kb hv;rw[<-this] at hlt;omega
    ·have:=gr.mp h.srt i k h2 h1 q;rw[e1,e2] at this;omega
   have:=ih k hki μ hk;rw[qy];show μ.length+1<=i
   omega
def Rc.signs(h:Rc n s st fi kept a)(hs:0<s):∀(i:Nat)(v:LNt),kept[i]?=some v->∀g∈v,g<s:=by
 intro i;induction i using Nat.strongRecOn with
 |_ i ih=>
  intro v hv;obtain⟨j,hj,e⟩:=h.sub v (qN hv);rcases JZ.mp (qN e) with q|⟨μ,hμ,b,hb,q⟩
  ·subst q;exact λg hg=>by cases hg
  ·subst q;obtain⟨k,hk⟩:=qP hμ;obtain⟨h1,e1⟩:=qg.mp hk;obtain⟨h2,e2⟩:=qg.mp hv;have hlt:=ziY s hs μ b;have hki:k<i:=by
    rcases pL k i with q|q|q
    ·exact q
    ·subst q;rw[hk] at hv
     have:=kb hv;rw[<-this] at hlt;omega
    ·have:=gr.mp h.srt i k h2 h1 q;rw[e1,e2] at this;omega
   intro g hg;rcases qr.mp hg with z|z
   ·exact ih k hki μ hk g z
   ·rw[qQ.mp z];exact hb
end
structure RS(n s:Nat)(st:Q3x)(fi:Q1x)(W:List (List Nat))(Rw:LZr)(T F:LNt)(C:LZr)(d:Int)(a:Nat):Prop where
 sp:Sp n Rw.reverse T F C d
 rc:Rc n s st fi W a
 len:W.length=Rw.length
 lenT:T.length=Rw.length
 mult:∀(i:Nat)(w:LNt)(r:Z1x),W[i]?=some w->Rw[i]?=some r->∃c:Rat,c≠0/\∀x,x<n->(r x:Rat)=c*zN n st fi w x
section
variable{n s:Nat}{st:Q3x}{fi la:Q1x}{W:List (List Nat)}{Rw:LZr}{T F:LNt}{C:LZr}{d:Int}{a:Nat}
def zhZ:RS n s st fi [] [] [] (List.range n) ((List.range n).map xt) 1 0:=⟨ziT n,zlJ,rfl,rfl,λi w r h=>(by simp at h)⟩
def ZA{c:Rat}{r:Z1x}{f w:Q1x}(h:∀x,x<n->(r x:Rat)=c*f x):dq n w (rt r)=c*dq n w f:=by
 show sumTo n (λx=>w x*(r x:Rat))=c*sumTo n λx=>w x*f x
 rw[zf n (g:=λx=>w x*f x*c) λx hx=>by rw[h x hx];grind,zM];exact kX _ _
def zbo(f g:Q1x):dq n f g=dq n g f:=zf n λx _=>kX _ _
def RS.orth(h:RS n s st fi W Rw T F C d a)(w:Q1x):(∀v∈W,dq n w (zN n st fi v)=0)↔∀r∈Rw.reverse,dq n w (rt r)=0:=by
 constructor
 ·intro q r hr;obtain⟨i,hi⟩:=qP (kn.mp hr);obtain⟨hl,_⟩:=qg.mp hi;obtain⟨v,hv⟩:∃v,W[i]?=some v:=⟨_,qk (by rw[h.len];exact hl)⟩;have⟨c,hc,e⟩:=h.mult i v r hv hi;rw[ZA e,q v (qN hv)];exact gA _
 ·intro q v hv;obtain⟨i,hi⟩:=qP hv;obtain⟨hl,_⟩:=qg.mp hi;obtain⟨r,hr⟩:∃r,Rw[i]?=some r:=⟨_,qk (by rw[<-h.len];exact hl)⟩;have⟨c,hc,e⟩:=h.mult i v r hi hr
  have:=q r (kn.mpr (qN hr));rw[ZA e] at this;rcases kP.mp this with z|z
  ·exact absurd z hc
  ·exact z
def RS.skip(h:RS n s st fi W Rw T F C d a){u:LNt}{r:Z1x}{c:Rat}(hu:(queue s W)[a]?=some u)(hc:c≠0)(e:∀x,x<n->(r x:Rat)=c*zN n st fi u x)(hz:∀k∈C,dt n k r=0):RS n s st fi W Rw T F C d (a+1):=by
 refine⟨h.sp,h.rc.skip hu λw hw=>?_,h.len,h.lenT,h.mult⟩
 have:=(h.sp.holds (rt r)).mp (λk hk=>by rw[Vs,hz k hk];rfl) w ((h.orth w).mp hw);rw[ZA e] at this;rcases kP.mp this with z|z
 ·exact absurd z hc
 ·exact z
def RS.keep(h:RS n s st fi W Rw T F C d a){u:LNt}{r cg:Z1x}{c:Rat}{i g:Nat}(hu:(queue s W)[a]?=some u)(hc:c≠0)(e:∀x,x<n->(r x:Rat)=c*zN n st fi u x)(hi:C[i]?=some cg)(hg:F[i]?=some g)(hp:dt n cg r≠0):RS n s st fi (W++[u]) (Rw++[r]) (T++[g]) (F.eraseIdx i) ((C.eraseIdx i).map λc=>nar (dt n cg r) d (dt n c r) cg c) (dt n cg r) (a+1):=by
 refine⟨?_,h.rc.keep hu,by rw[qy,qy,h.len];rfl,by rw[qy,qy,h.lenT];rfl,λj v ρ hv hρ=>?_⟩
 ·rw[List.reverse_append];exact h.sp.take hi hg hp
 ·by_cases q:j<W.length
  ·rw[qK q] at hv;rw[qK (by rw[<-h.len];exact q)] at hρ;exact h.mult j v ρ hv hρ
  ·obtain⟨hl,_⟩:=qg.mp hv;have hj:j=W.length:=by
    rw[qy] at hl;simp at hl;omega
   subst hj;rw[qz (qf _),gm] at hv;rw[qz (by rw[h.len];exact qf _),h.len,gm] at hρ;cases hv;cases hρ;exact⟨c,hc,e⟩
def Sp.few{R:LZr}(h:Sp n R T F C d):T.length+F.length=n:=by
 have p:(T++F).Perm (List.range n):=by
  rw[ba h.nd nN];intro x;rw[h.mem,qE]
 have:=p.length_eq;rw[qy,qu] at this;exact this
def zkR(w:LNt):wt n st fi la w=dq n la (zN n st fi w):=zf n λx _=>kX _ _
def RS.none(h:RS n s st fi W Rw T F C d a)(hs:0<s)(hd:(queue s W).length<=a\/F=[])(w:LNt)(hg:∀g∈w,g<s)(c:Q1x)(hc:∀v∈W,dq n c (zN n st fi v)=0):dq n c (zN n st fi w)=0:=by
 rcases hd with hd|hd
 ·exact h.rc.done hs hd w hg c hc
 ·have z:=h.sp.ind c (λx hx ht=>?_) ((h.orth c).mp hc)
  ·show sumTo n (λx=>c x*zN n st fi w x)=0
   rw[zf n (g:=λ_=>0) λx hx=>by rw[z x hx];exact kK _,yx]
  ·have:=(h.sp.mem x).mpr hx;rw[hd,kj] at this;exact absurd this ht
def RS.first(h:RS n s st fi W Rw T F C d a)(hs:0<s){u:LNt}(hu:(queue s W)[a]?=some u)(hF:F≠[])(h0:∀v∈W,wt n st fi la v=0):(∀w,(∀g∈w,g<s)->cd s w<cd s u->wt n st fi la w=0)/\u.length<n/\∀g∈u,g<s:=by
 refine⟨λw hg hw=>?_,?_,?_⟩
 ·rw[zkR];exact h.rc.before hs hu w hg hw la λv hv=>by rw[<-zkR];exact h0 v hv
 ·have k:=h.rc.keep hu
  have:=k.short hs W.length u (by rw[qz (qf _),gm];rfl);have f:=h.sp.few
  have:0<F.length:=pk.mpr hF;have l1:=h.len;have l2:=h.lenT
  omega
 ·have k:=h.rc.keep hu;exact k.signs hs W.length u (by rw[qz (qf _),gm];rfl)
end
def zet(j:Nat):(sg j).natAbs=1:=by
 unfold sg;split<;>rfl
theorem zbG{n B:Nat}:∀(R:LZr)(S:LNt),(∀r∈R,∀x,x<n->(r x).natAbs<=B)->(∀x∈S,x<n)->S.length<=n->(det R S).natAbs<=(n*B) ^ R.length
 |[],S,_,_,_=>by
  show(1:Int).natAbs<=1
  decide
 |r::R,S,hR,hS,hl=>by
  show(yo S.length λj=>sg j*(r (S.getD j 0)*det R (S.eraseIdx j))).natAbs<=_
  have h:=JD (f:=λj=>sg j*(r (S.getD j 0)*det R (S.eraseIdx j))) (B:=B*(n*B) ^ R.length) S.length λj hj=>by
   rw[kg,kg,zet,mi];refine ky (hR r (.head _) _ (hS _ ?_)) (zbG R _ (λq hq=>hR q (.tail _ hq)) (λx hx=>hS x (gV hx)) ?_)
   ·rw[qB,qk hj];exact gy hj
   ·rw[gK hj];omega
  refine qw h ?_;rw[qX,Nat.pow_succ,mj ((n*B) ^ R.length),Nat.mul_assoc];exact qZ _ hl
def zkx{n B:Nat}(R:LZr)(S:LNt)(hR:∀r∈R,∀x,x<n->(r x).natAbs<=B)(hS:∀x∈S,x<n)(hl:S.length<=n)(x:Nat):(vec R S x).natAbs<=n*(n*B) ^ R.length:=by
 have h:=JD (f:=λj=>if S.getD j 0=x then sg j*det R (S.eraseIdx j) else 0) (B:=(n*B) ^ R.length) S.length λj hj=>by
  split
  ·rw[kg,zet,mi];refine zbG R _ hR (λx hx=>hS x (gV hx)) ?_;rw[gK hj];omega
  ·exact kE _
 exact qw h (qZ _ hl)
def zfm{e:Int}(h:e*e=1):e.natAbs=1:=by
 have:=qR Int.natAbs h;rw[kg] at this;have h1:e.natAbs*e.natAbs=1:=this;exact Nat.eq_one_of_mul_eq_one_left h1
section
variable{n B:Nat}{R:LZr}{T F:LNt}{C:LZr}{d:Int}
def Sp.znT(h:Sp n R T F C d):∀x∈T,x<n:=λx hx=>(h.mem x).mp (qr.mpr (.inl hx))
def Sp.WE(h:Sp n R T F C d)(hT:T.length<=n)(hR:∀r∈R,∀x,x<n->(r x).natAbs<=B):d.natAbs<=(n*B) ^ R.length:=by
 have⟨e,e1,e2,_⟩:=h.ex;rw[e2,kg,zfm e1,mi];exact zbG R T hR h.znT hT
def Sp.WW(h:Sp n R T F C d)(hT:T.length+F.length=n)(hR:∀r∈R,∀x,x<n->(r x).natAbs<=B){i:Nat}{c:Z1x}(hc:C[i]?=some c):∀x,x<n->(c x).natAbs<=n*(n*B) ^ R.length:=λx hx=>by
 have⟨e,e1,e2,e3⟩:=h.ex;obtain⟨hi,_⟩:=qg.mp hc;rw[h.lenC] at hi;obtain⟨f,hf⟩:∃f,F[i]?=some f:=⟨_,qk hi⟩;rw[e3 i c f hc hf x hx,kg,kg,zfm e1,zet,mi];refine zkx R _ hR (h.lt hf) ?_ x;rw[qy];show T.length+1<=n
 omega
end
def el(b:Q1x)(k:Nat)(r:Q1x):Nat->Rat:=λy=>r y - r k / b k*b y
def pick(k:Nat):List (Nat->Rat)->Option ((Nat->Rat)×List (Nat->Rat))
 |[]=>none
 |q::Q=>if q k≠0 then some (q,Q) else (pick k Q).map λp=>(p.1,q::p.2)
def rk:Nat->Nat->List (Nat->Rat)->Nat
 |0,_,_=>0
 |m+1,k,Q=>match pick k Q with
  |none=>rk m (k+1) Q
  |some p=>1+rk m (k+1) (p.2.map (el p.1 k))
def InQ(n:Nat)(L:LQr)(x:Q1x):Prop:=∀w:Nat->Rat,(∀l∈L,dq n w l=0)->dq n w x=0
theorem uI{k:Nat}:∀{Q:LQr},pick k Q=none->∀q∈Q,q k=0
 |[],_,q,h=>by cases h
 |p::Q,e,q,h=>by
  unfold pick at e;split at e
  ·cases e
  ·rename_i hp;have e2:pick k Q=none:=by
    cases z:pick k Q with
    |none=>rfl
    |some y=>rw[z] at e;cases e
   rcases qx.mp h with z|z
   ·rw[z];exact Classical.not_not.mp hp
   ·exact uI e2 q z
theorem ui{k:Nat}:∀{Q:LQr} {p:(Nat->Rat)×List (Nat->Rat)},pick k Q=some p->p.1 k≠0/\(p.1::p.2).Perm Q
 |[],p,e=>by cases e
 |q::Q,p,e=>by
  unfold pick at e;split at e
  ·rename_i hq;cases e;exact⟨hq,List.Perm.refl _⟩
  ·obtain⟨p',e1,e2⟩:∃p',pick k Q=some p'/\(p'.1,q::p'.2)=p:=by
    cases z:pick k Q with
    |none=>rw[z] at e;cases e
    |some y=>rw[z] at e;exact⟨y,rfl,by cases e;rfl⟩
   subst e2;have⟨h1,h2⟩:=ui e1;exact⟨h1,(List.Perm.swap q p'.1 p'.2).trans (h2.cons q)⟩
theorem Uk{k:Nat}{x:Q1x}:∀{Q:LQr} {p:(Nat->Rat)×List (Nat->Rat)},pick k Q=some p->pick k (Q++[x])=some (p.1,p.2++[x])
 |[],p,e=>by cases e
 |q::Q,p,e=>by
  unfold pick at e;show(if q k≠0 then some (q,Q++[x]) else (pick k (Q++[x])).map λp=>(p.1,q::p.2))=_
  by_cases hq:q k≠0
  ·rw[qj hq] at e ⊢;cases e;rfl
  ·rw[qo hq] at e ⊢;cases z:pick k Q with
   |none=>rw[z] at e;cases e
   |some y=>
    rw[z] at e;cases e;rw[Uk z];rfl
theorem Up{k:Nat}{x:Q1x}:∀{Q:LQr},pick k Q=none->pick k (Q++[x])=if x k≠0 then some (x,Q) else none
 |[],_=>by
  show(if x k≠0 then some (x,[]) else (none:Option ((Nat->Rat)×List (Nat->Rat))).map _)=_
  by_cases h:x k≠0
  ·rw[qj h,qj h]
  ·rw[qo h,qo h];rfl
 |q::Q,e=>by
  have hq:¬q k≠0:=λz=>z (uI e q (.head _))
  unfold pick at e;rw[qo hq] at e;have e2:pick k Q=none:=by
   cases z:pick k Q with
   |none=>rfl
   |some y=>rw[z] at e;cases e
  show(if q k≠0 then some (q,Q++[x]) else (pick k (Q++[x])).map λp=>(p.1,q::p.2))=_
  rw[qo hq,Up e2];by_cases h:x k≠0
  ·rw[qj h,qj h];rfl
  ·rw[qo h,qo h];rfl
def zfY{n:Nat}(w b r:Q1x)(k:Nat):dq n w (el b k r)=dq n w r - r k / b k*dq n w b:=by
 have h:=zaf (n:=n) 1 (r k / b k) r b w;rw[zbo w r,zbo w b,zbo w (el b k r)];have e:dq n (el b k r) w=dq n (λx=>1*r x - r k / b k*b x) w:=zf n λx _=>by
  show(r x - r k / b k*b x)*w x=(1*r x - r k / b k*b x)*w x
  grind
 rw[e,h];grind
inductive Ech:Nat->List (Nat->Rat)->Prop
 |nil {k:Nat}:Ech k []
 |cons {k p:Nat} {b:Q1x} {P:LQr}:p<k->b p≠0->(∀y,y<p->b y=0)->Ech p P->Ech k (b::P)
def Ech.mono{k l:Nat}{P:LQr}(h:Ech k P)(hl:k<=l):Ech l P:=by
 cases h with
 |nil=>exact .nil
 |cons h1 h2 h3 h4=>exact .cons (by omega) h2 h3 h4
theorem Ech.solve{n:Nat}:∀{P:LQr} {k:Nat},Ech k P->k<=n->∀w:Nat->Rat,∃w':Nat->Rat,(∀y,k<=y->w' y=w y)/\∀b∈P,dq n w' b=0
 |[],_,_,_,w=>⟨w,λ_ _=>rfl,λb h=>by cases h⟩
 |b::P,k,h,hk,w=>by
  cases h with
  | @cons _ p _ _ h1 h2 h3 h4=>
   obtain⟨c,hc⟩:∃c:Rat,dq n (λy=>if y=p then c else w y) b=0:=by
    refine⟨w p - dq n w b / b p,?_⟩;have e:dq n (λy=>if y=p then w p - dq n w b / b p else w y) b=dq n w b+-(dq n w b / b p)*b p:=by
     generalize dq n w b / b p=t;show sumTo n (λy=>(if y=p then w p - t else w y)*b y)=sumTo n (λy=>w y*b y)+-t*b p
     have:∀m,p<m->sumTo m (λy=>(if y=p then w p - t else w y)*b y)=sumTo m (λy=>w y*b y)+-t*b p:=by
      intro m;induction m with
      |zero=>intro h;exact absurd h (gq _)
      |succ m ih=>
       intro hm;show sumTo m (λy=>(if y=p then w p - t else w y)*b y)+(if m=p then w p - t else w m)*b m=(sumTo m (λy=>w y*b y)+w m*b m)+-t*b p
       by_cases q:m=p
       ·subst q;rw[qj rfl,zf m (g:=λy=>w y*b y) λy hy=>by rw[qo (by omega)]];grind
       ·rw[qo q,ih (by omega)];grind
     exact this n (by omega)
    rw[e]
    have:dq n w b / b p*b p=dq n w b:=g0 h2;grind
   obtain⟨w',hw,hP⟩:=Ech.solve (n:=n) h4 (show p<=n by omega) λy=>if y=p then c else w y
   refine⟨w',λy hy=>?_,λq hq=>?_⟩
   ·rw[hw y (by omega),qo (show ¬y=p by omega)]
   ·rcases qx.mp hq with z|z
    ·subst z;rw[<-hc];refine zf n λy _=>?_
     by_cases hy:y<p
     ·rw[h3 y hy,gA,gA]
     ·rw[hw y (by omega)]
    ·exact hP q z
structure El(n k:Nat)(L P Q:LQr):Prop where
 ech:Ech k P
 zero:∀q∈Q,∀y,y<k->q y=0
 span:∀w:Nat->Rat,(∀l∈L,dq n w l=0)↔(∀b∈P,dq n w b=0)/\∀q∈Q,dq n w q=0
def zlZ{n:Nat}(L:LQr):El n 0 L [] L:=⟨.nil,λ_ _ y h=>absurd h (gq y),λw=>⟨λh=>⟨λb hb=>(by cases hb),h⟩,λh=>h.2⟩⟩
def El.skip{n k:Nat}{L P Q:LQr}(h:El n k L P Q)(e:pick k Q=none):El n (k+1) L P Q:=⟨h.ech.mono (mY k),λq hq y hy=>by
 by_cases z:y=k
 ·rw[z];exact uI e q hq
 ·exact h.zero q hq y (by omega),h.span⟩
def zmx{b r:Q1x}{k:Nat}(hb:b k≠0):el b k r k=0:=by
 show r k - r k / b k*b k=0
 rw[g0 hb];grind
def ziZ{b r:Q1x}{k y:Nat}(h1:r y=0)(h2:b y=0):el b k r y=0:=by
 show r y - r k / b k*b y=0
 rw[h1,h2];grind
def El.step{n k:Nat}{L P Q:LQr}(h:El n k L P Q){p:(Nat->Rat)×List (Nat->Rat)}(e:pick k Q=some p):El n (k+1) L (p.1::P) (p.2.map (el p.1 k)):=by
 have⟨h1,h2⟩:=ui e;have mb:p.1∈Q:=h2.mem_iff.mp (.head _);have mq:∀q∈p.2,q∈Q:=λq hq=>h2.mem_iff.mp (.tail _ hq)
 refine⟨.cons (kR k) h1 (h.zero p.1 mb) h.ech,λq hq y hy=>?_,λw=>?_⟩
 ·obtain⟨r,hr,rfl⟩:=qT.mp hq;by_cases z:y=k
  ·rw[z];exact zmx h1
  ·exact ziZ (h.zero r (mq r hr) y (by omega)) (h.zero p.1 mb y (by omega))
 ·rw[h.span w];constructor
  ·rintro⟨a1,a2⟩;refine⟨λb hb=>?_,λq hq=>?_⟩
   ·rcases qx.mp hb with z|z
    ·rw[z];exact a2 _ mb
    ·exact a1 b z
   ·obtain⟨r,hr,rfl⟩:=qT.mp hq;rw[zfY,a2 r (mq r hr),a2 _ mb];grind
  ·rintro⟨a1,a2⟩;refine⟨λb hb=>a1 b (.tail _ hb),λq hq=>?_⟩;rcases qx.mp (h2.mem_iff.mpr hq) with z|z
   ·rw[z];exact a1 _ (.head _)
   ·have:=a2 _ (qT.mpr ⟨q,z,rfl⟩);rw[zfY,a1 _ (.head _)] at this;grind
open Classical in
theorem zbF{n:Nat}{L:LQr}:∀(m k:Nat)(P Q:LQr)(x:Q1x),k+m=n->El n k L P Q->(∀y,y<k->x y=0)->rk m k (Q++[x])=rk m k Q+if InQ n L x then 0 else 1
 |0,k,P,Q,x,hm,h,hx=>by
  have:InQ n L x:=λw _=>by
   show sumTo n (λy=>w y*x y)=0
   rw[zf n (g:=λ_=>0) λy hy=>by rw[hx y (by omega)];exact gA _,yx]
  rw[qj this];rfl
 |m+1,k,P,Q,x,hm,h,hx=>by
  cases e:pick k Q with
  |some p=>
   have e':=Uk (x:=x) e;have⟨h1,h2⟩:=ui e
   have mb:p.1∈Q:=h2.mem_iff.mp (.head _);have l:rk (m+1) k (Q++[x])=1+rk m (k+1) ((p.2++[x]).map (el p.1 k)):=by
    show(match pick k (Q++[x]) with |none=>rk m (k+1) (Q++[x])|some p=>1+rk m (k+1) (p.2.map (el p.1 k)))=_
    rw[e']
   have r:rk (m+1) k Q=1+rk m (k+1) (p.2.map (el p.1 k)):=by
    show(match pick k Q with |none=>rk m (k+1) Q|some p=>1+rk m (k+1) (p.2.map (el p.1 k)))=_
    rw[e]
   have iff:InQ n L (el p.1 k x)↔InQ n L x:=by
    have q:∀w,(∀l∈L,dq n w l=0)->dq n w (el p.1 k x)=dq n w x:=λw hw=>by
     rw[zfY,((h.span w).mp hw).2 _ mb];grind
    exact⟨λz w hw=>by rw[<-q w hw];exact z w hw,λz w hw=>by rw[q w hw];exact z w hw⟩
   rw[l,r,qW,gI,List.map_nil,zbF m (k+1) (p.1::P) (p.2.map (el p.1 k)) (el p.1 k x) (by omega) (h.step e) λy hy=>?_]
   ·by_cases z:InQ n L x
    ·rw[qj z,qj (iff.mpr z)];omega
    ·rw[qo z,qo λq=>z (iff.mp q)];omega
   ·by_cases z:y=k
    ·rw[z];exact zmx h1
    ·exact ziZ (hx y (by omega)) (h.zero p.1 mb y (by omega))
  |none=>
   have e':=Up (x:=x) e;have r:rk (m+1) k Q=rk m (k+1) Q:=by
    show(match pick k Q with |none=>rk m (k+1) Q|some p=>1+rk m (k+1) (p.2.map (el p.1 k)))=_
    rw[e]
   by_cases z:x k=0
   ·rw[qo λq=>q z] at e';have l:rk (m+1) k (Q++[x])=rk m (k+1) (Q++[x]):=by
     show(match pick k (Q++[x]) with |none=>rk m (k+1) (Q++[x])|some p=>1+rk m (k+1) (p.2.map (el p.1 k)))=_
     rw[e']
    rw[l,r];exact zbF m (k+1) P Q x (by omega) (h.skip e) λy hy=>by
     by_cases q:y=k
     ·rw[q];exact z
     ·exact hx y (by omega)
   ·rw[qj z] at e';have l:rk (m+1) k (Q++[x])=1+rk m (k+1) (Q.map (el x k)):=by
     show(match pick k (Q++[x]) with |none=>rk m (k+1) (Q++[x])|some p=>1+rk m (k+1) (p.2.map (el p.1 k)))=_
     rw[e']
    have same:Q.map (el x k)=Q:=by
     conv=>rhs;rw[<-List.map_id Q]
     refine kC λq hq=>?_
     funext y
     show q y - q k / x k*x y=q y
     rw[uI e q hq];grind
    have no:¬InQ n L x:=λhin=>by
     obtain⟨w',hw,hP⟩:=Ech.solve (n:=n) h.ech (show k<=n by omega) λy=>if y=k then 1 else 0
     have hq:∀q:Nat->Rat,(∀y,y<k->q y=0)->dq n w' q=q k:=λq h0=>by
      show sumTo n (λy=>w' y*q y)=q k
      rw[yR _ (j:=k) n (by omega) λy hy hne=>?_]
      ·rw[hw k (qf k),qj rfl];grind
      ·by_cases hlt:y<k
       ·rw[h0 y hlt,gA]
       ·rw[hw y (by omega),qo hne,kK]
     have:=hin w' ((h.span w').mpr ⟨hP,λq hm=>by rw[hq q (h.zero q hm)];exact uI e q hm⟩);rw[hq x hx] at this;exact z this
    rw[l,r,same,qo no];omega
open Classical in
def zgg{n:Nat}(L:LQr)(x:Q1x):rk n 0 (L++[x])=rk n 0 L+if InQ n L x then 0 else 1:=zbF n 0 [] L x (by omega) (zlZ L) λy h=>absurd h (gq y)
def zgl{n:Nat}(L:LQr)(x:Q1x):rk n 0 (L++[x])=rk n 0 L↔InQ n L x:=by
 classical
 rw[zgg];by_cases z:InQ n L x
 ·rw[qj z];exact⟨λ_=>z,λ_=>rfl⟩
 ·rw[qo z];exact⟨λq=>absurd q (by omega),λq=>absurd q z⟩
structure Eb(n B X:Nat)(Q:LQr)(R:LZr)(T F:LNt)(C:LZr)(d:Int):Prop where
 sp:Sp n R T F C d
 rb:∀r∈R,∀x,x<n->(r x).natAbs<=B
 lenT:R.length=T.length
 qs:∀q∈Q,∃(l:Z1x)(M:Nat),0<M/\M<=X/\(∀x,x<n->(l x).natAbs<=B)/\(∀t∈T,q t=0)/\∀w:Nat->Rat,(∀r∈R,dq n w (rt r)=0)->dq n w (rt l)=(M:Rat)*dq n w q
def zmB{n B X:Nat}{L:LQr}(h:∀q∈L,∃(l:Z1x)(M:Nat),0<M/\M<=X/\∀x,x<n->(l x).natAbs<=B/\(l x:Rat)=(M:Rat)*q x):Eb n B X L [] [] (List.range n) ((List.range n).map xt) 1 where
 sp:=ziT n
 rb:=λr hr=>by cases hr
 lenT:=rfl
 qs:=λq hq=>by
  have⟨l,M,h1,h2,h3⟩:=h q hq;refine⟨l,M,h1,h2,λx hx=>(h3 x hx).1,λt ht=>(by cases ht),λw _=>?_⟩;show sumTo n (λx=>w x*(l x:Rat))=(M:Rat)*sumTo n λx=>w x*q x
  rw[zf n (g:=λx=>w x*q x*(M:Rat)) λx hx=>by rw[(h3 x hx).2];grind,zM];exact kX _ _
section
variable{n B X:Nat}{Q:LQr}{R:LZr}{T F:LNt}{C:LZr}{d:Int}
def Eb.dot(h:Eb n B X Q R T F C d){q:Q1x}(hT:∀t∈T,q t=0){i f:Nat}{c:Z1x}(hc:C[i]?=some c)(hf:F[i]?=some f):dq n (rt c) q=(d:Rat)*q f:=by
 have⟨f1,f2⟩:=h.sp.free hf;show sumTo n (λx=>(c x:Rat)*q x)=_
 rw[yR _ n f1 λx hx hne=>?_,h.sp.at hc hf];by_cases ht:x∈T
 ·rw[hT x ht,gA]
 ·rw[h.sp.out hc hf hx ht hne];exact kK _
def Eb.zkS(h:Eb n B X Q R T F C d){i f:Nat}{c:Z1x}(hc:C[i]?=some c)(hf:F[i]?=some f):∀r∈R,dq n (rt c) (rt r)=0:=λr hr=>by
 rw[Vs,h.sp.orth hc hf hr];rfl
def zlj{n K B:Nat}{c l:Z1x}(hc:∀x,x<n->(c x).natAbs<=K)(hl:∀x,x<n->(l x).natAbs<=B):(dt n c l).natAbs<=n*(K*B):=by
 have:∀m,m<=n->(dt m c l).natAbs<=m*(K*B):=by
  intro m;induction m with
  |zero=>intro _;exact kE _
  |succ m ih=>
   intro hm;show(dt m c l+c m*l m).natAbs<=_
   have h1:=ih (by omega);have h2:(c m*l m).natAbs<=K*B:=by
    rw[kg];exact ky (hc m (by omega)) (hl m (by omega))
   rw[gH];omega
 exact this n (qf n)
def Eb.num(h:Eb n B X Q R T F C d){q:Q1x}(hq:q∈Q):∃M:Nat,0<M/\M<=X/\∀x,x<n->∃S:Int,q x*((M:Rat)*(d:Rat))=(S:Rat)/\S.natAbs<=n*((n*(n*B) ^ R.length)*B):=by
 have⟨l,M,h1,h2,h3,h4,h5⟩:=h.qs q hq;refine⟨M,h1,h2,λx hx=>?_⟩;rcases qr.mp ((h.sp.mem x).mpr hx) with z|z
 ·exact⟨0,by rw[h4 x z];exact kK _,kE _⟩
 ·obtain⟨i,hi⟩:=qP z;have hi':i<C.length:=by rw[h.sp.lenC];exact(qg.mp hi).1
  have hc:C[i]?=some C[i]:=qk hi';refine⟨dt n C[i] l,?_,zlj (h.sp.WW h.sp.few h.rb hc) h3⟩;have e1:=h5 (rt C[i]) (h.zkS hc hi)
  rw[h.dot h4 hc hi,Vs] at e1;rw[e1];grind
def Eb.znF(h:Eb n B X Q R T F C d):R.length<=n:=by
 have:=h.sp.few
 have:=h.lenT;omega
def Eb.dabs(h:Eb n B X Q R T F C d):d.natAbs<=(n*B) ^ R.length:=h.sp.WE (by have:=h.sp.few;omega) h.rb
def Eb.step(h:Eb n B X Q R T F C d){k:Nat}(hk:k<n){p:(Nat->Rat)×List (Nat->Rat)}(e:pick k Q=some p):∃R' T' F' C' d',Eb n B X (p.2.map (el p.1 k)) R' T' F' C' d'/\R'.length=R.length+1:=by
 have⟨h1,h2⟩:=ui e;have mb:p.1∈Q:=h2.mem_iff.mp (.head _);have mq:∀q∈p.2,q∈Q:=λq hq=>h2.mem_iff.mp (.tail _ hq)
 have⟨l,M,M0,MX,lB,lT,lw⟩:=h.qs p.1 mb;have kF:k∈F:=(qr.mp ((h.sp.mem k).mpr hk)).resolve_left λz=>h1 (lT k z)
 obtain⟨i,hi⟩:=qP kF;have hi':i<C.length:=by rw[h.sp.lenC];exact(qg.mp hi).1
 have hc:C[i]?=some C[i]:=qk hi';have hM:(M:Rat)≠0:=ja M0
 have hd:(d:Rat)≠0:=λz=>h.sp.d0 (by exact_mod_cast z)
 have e1:=lw (rt C[i]) (h.zkS hc hi);rw[h.dot lT hc hi,Vs] at e1;have hp:dt n C[i] l≠0:=λz=>by
  rw[z] at e1;rcases kP.mp (show(M:Rat)*((d:Rat)*p.1 k)=0 from e1.symm) with z|z
  ·exact hM z
  ·rcases kP.mp z with z|z
   ·exact hd z
   ·exact h1 z
 refine⟨_,_,_,_,_,⟨h.sp.take hc hi hp,λr hr x hx=>?_,by rw[qX,qy,h.lenT];rfl,λq hq=>?_⟩,rfl⟩
 ·rcases qx.mp hr with z|z
  ·rw[z];exact lB x hx
  ·exact h.rb r z x hx
 ·obtain⟨r,hr,rfl⟩:=qT.mp hq;obtain⟨l',M',a1,a2,a3,a4,a5⟩:=h.qs r (mq r hr);refine⟨l',M',a1,a2,a3,λt ht=>?_,λw hw=>?_⟩
  ·rcases qr.mp ht with z|z
   ·exact ziZ (a4 t z) (lT t z)
   ·rw[qQ.mp z];exact zmx h1
  ·have w1:=a5 w λr' hr'=>hw r' (.tail _ hr')
   have w2:=lw w λr' hr'=>hw r' (.tail _ hr')
   rw[hw l (.head _)] at w2;have w3:dq n w p.1=0:=(kP.mp w2.symm).resolve_left hM;rw[w1,zfY,w3];grind
end
def lsum(f:Q1x):List Nat->Rat
 |[]=>0
 |j::r=>f j+lsum f r
theorem JB(f:Q1x):∀(A B:LNt),lsum f (A++B)=lsum f A+lsum f B
 |[],B=>by show lsum f B=0+lsum f B;grind
 |a::A,B=>by
  show f a+lsum f (A++B)=(f a+lsum f A)+lsum f B
  rw[JB f A B];grind
theorem vZ{f g:Q1x}:∀{J:LNt},(∀j∈J,f j=g j)->lsum f J=lsum g J
 |[],_=>rfl
 |a::J,h=>by
  show f a+lsum f J=g a+lsum g J
  rw[h a (ka ..),vZ λj hj=>h j (qA _ hj)]
theorem Ze(a b:Rat)(f g:Q1x):∀J:List Nat,lsum (λj=>a*f j+b*g j) J=a*lsum f J+b*lsum g J
 |[]=>by show(0:Rat)=a*0+b*0;grind
 |j::J=>by
  show(a*f j+b*g j)+lsum (λj=>a*f j+b*g j) J=a*(f j+lsum f J)+b*(g j+lsum g J)
  rw[Ze a b f g J];grind
theorem Zo(f:Q1x):∀n,lsum f (List.range n)=sumTo n f
 |0=>rfl
 |n+1=>by
  rw[gP,JB,Zo f n];show sumTo n f+(f n+0)=sumTo n f+f n
  grind
theorem ker:∀(L:LQr)(J:LNt),J.Nodup->L.length<J.length->∃c:Nat->Rat,(∃j∈J,c j≠0)/\∀l∈L,lsum (λj=>c j*l j) J=0
 |[],J,_,h=>by
  cases J with
  |nil=>exact absurd h (k9 0)
  |cons j J=>exact⟨λ_=>1,⟨j,ka ..,(by decide:(1:Rat)≠0)⟩,λl hl=>by cases hl⟩
 |l::L,J,hJ,h=>by
  by_cases hz:∀j∈J,l j=0
  ·obtain⟨c,h1,h2⟩:=ker L J hJ (by simp only [qX] at h;omega);refine⟨c,h1,λq hq=>?_⟩;rcases qx.mp hq with z|z
   ·rw[z,vZ (g:=λj=>0*c j+0*c j) λj hj=>by rw[hz j hj];grind,Ze];grind
   ·exact h2 q z
  ·have ⟨p,hp,hl⟩:∃p,p∈J/\l p≠0:=by
    apply kx
    intro q;exact hz λj hj=>kx λz=>q ⟨j,hj,z⟩
   obtain⟨A,B,rfl⟩:=List.append_of_mem hp;have hp':p∉A++B:=by
    exact(ke.mp (List.perm_middle.nodup_iff.mp hJ)).1
   have hn':(A++B).Nodup:=(ke.mp (List.perm_middle.nodup_iff.mp hJ)).2;obtain⟨c,⟨i,hi,hc⟩,h2⟩:=ker (L.map λq=>λj=>q j - q p / l p*l j) (A++B) hn' (by
    simp only [qX,qy,qe] at h ⊢;omega)
   have S:∀(f:Q1x),lsum f (A++p::B)=lsum f (A++B)+f p:=λf=>by
    rw[JB,JB];show lsum f A+(f p+lsum f B)=lsum f A+lsum f B+f p
    grind
   let t:=lsum (λj=>c j*l j) (A++B)
   have ne:∀j∈A++B,j≠p:=λj hj e=>hp' (e▸hj)
   have S':∀q:Nat->Rat,lsum (λj=>(if j=p then -(t / l p) else c j)*q j) (A++p::B)=lsum (λj=>c j*q j) (A++B) - t / l p*q p:=λq=>by
    rw[S,vZ (g:=λj=>c j*q j) λj hj=>by rw[qo (ne j hj)],qj rfl];grind
   refine⟨λj=>if j=p then -(t / l p) else c j,⟨i,?_,?_⟩,λq hq=>?_⟩
   ·rcases qr.mp hi with z|z
    ·exact qr.mpr (.inl z)
    ·exact qr.mpr (.inr (qA _ z))
   ·show(if i=p then -(t / l p) else c i)≠0
    rw[qo (ne i hi)];exact hc
   ·rw[S' q];rcases qx.mp hq with z|z
    ·rw[z]
     have:t / l p*l p=t:=g0 hl;show t - t / l p*l p=0
     rw[this];grind
    ·have e:=h2 _ (qT.mpr ⟨q,z,rfl⟩);rw[vZ (g:=λj=>1*(c j*q j)+(-(q p / l p))*(c j*l j)) λj _=>by grind,Ze] at e;have e':lsum (λj=>c j*q j) (A++B)=q p / l p*t:=by show _=q p / l p*lsum (λj=>c j*l j) (A++B);grind
     rw[e',gZ,gZ];grind
 termination_by L=>L.length
 decreasing_by all_goals simp only [List.length_map,List.length_cons];omega
def zix{n:Nat}(L:LQr)(h:L.length<n):∃c:Nat->Rat,(∃j,j<n/\c j≠0)/\∀l∈L,sumTo n (λj=>c j*l j)=0:=by
 obtain⟨c,⟨j,hj,hc⟩,e⟩:=ker L (List.range n) nN (by rw[qu];exact h);exact⟨c,⟨j,qE.mp hj,hc⟩,λl hl=>by rw[<-Zo];exact e l hl⟩
def jK(n:Nat)(st:Q3x)(la:Q1x):List Nat->Nat->Rat
 |[]=>la
 |g::v=>λa=>sumTo n λb=>st g a b*jK n st la v b
theorem Yz(n:Nat)(st:Q3x)(la:Q1x):∀(v:LNt)(r:Q1x),sumTo n (λa=>zN n st r v a*la a)=sumTo n λa=>r a*jK n st la v a
 |[],_=>rfl
 |g::v,r=>by
  show sumTo n (λa=>zN n st (led n r (st g)) v a*la a)=_
  rw[Yz n st la v];show sumTo n (λb=>sumTo n (λa=>r a*st g a b)*jK n st la v b)=sumTo n λa=>r a*sumTo n λb=>st g a b*jK n st la v b
  rw[zf n (g:=λb=>sumTo n λa=>r a*st g a b*jK n st la v b) λb _=>(zM _ _ n).symm,xx];refine zf n λa _=>?_
  rw[kX (r a),<-zM];exact zf n λb _=>by grind
def zc3(n:Nat)(st:Q3x)(fi la:Q1x)(u v:LNt):wt n st fi la (u++v)=sumTo n λa=>zN n st fi u a*jK n st la v a:=by
 show sumTo n (λa=>zN n st fi (u++v) a*la a)=_
 rw[wO,Yz]
def fewest{s n r:Nat}{st st':Q3x}{fi la fi' la':Q1x}(al:∀w:List Nat,(∀g∈w,g<s)->wt n st fi la w=wt r st' fi' la' w)(V:Nat->List Nat)(hV:∀j,j<r->∀g∈V j,g<s)(cols:∀c:Nat->Rat,(∀i,i<r->sumTo r (λj=>c j*jK r st' la' (V j) i)=0)->∀j,j<r->c j=0)(rows:∀y:Nat->Rat,(∀u:List Nat,(∀g∈u,g<s)->sumTo r (λi=>zN r st' fi' u i*y i)=0)->∀i,i<r->y i=0):r<=n:=by
 apply kx
 intro hlt;obtain⟨c,⟨j,hj,hc⟩,e⟩:=zix (n:=r) ((List.range n).map λi=>λj=>jK n st la (V j) i) (by rw[qe,qu];omega);refine hc (cols c (rows _ λu hu=>?_) j hj);have e1:∀i,i<n->sumTo r (λj=>c j*jK n st la (V j) i)=0:=λi hi=>e _ (qT.mpr ⟨i,qE.mpr hi,rfl⟩)
 have sw:∀(m:Nat)(R:Q1x)(C:Q2x),sumTo m (λi=>R i*sumTo r (λj=>c j*C j i))=sumTo r λj=>sumTo m (λi=>R i*C j i)*c j:=λm R C=>by
  rw[zf m (g:=λi=>sumTo r λj=>R i*C j i*c j) λi _=>by
   rw[kX (R i),<-zM];exact zf r λj _=>by grind,xx]
  exact zf r λj _=>zM _ _ m
 rw[sw r (zN r st' fi' u) λj=>jK r st' la' (V j)];rw[zf r (g:=λj=>sumTo n (λi=>zN n st fi u i*jK n st la (V j) i)*c j) λj hj=>by
  rw[<-zc3,<-zc3,al];intro g hg;rcases qr.mp hg with z|z
  ·exact hu g z
  ·exact hV j hj g z]
 rw[<-sw n (zN n st fi u) λj=>jK n st la (V j),zf n (g:=λ_=>0) λi hi=>by rw[e1 i hi];grind];exact yx n
def zhR{r:Nat}{M:Q2x}(h:∀w:Nat->Rat,(∀j,j<r->sumTo r (λi=>w i*M j i)=0)->∀i,i<r->w i=0):∀c:Nat->Rat,(∀i,i<r->sumTo r (λj=>c j*M j i)=0)->∀j,j<r->c j=0:=by
 intro c hc j0 hj0;apply kx;intro hne;obtain⟨w,⟨i,hi,hw⟩,e⟩:=zix (n:=r) (((List.range r).filter (·≠j0)).map M) (by
  rw[qe]
  have:((List.range r).filter (·≠j0)).length<(List.range r).length:=List.length_filter_lt_length_iff_exists.mpr ⟨j0,qE.mpr hj0,by simp⟩;rwa [qu] at this)
 have e1:∀j,j<r->j≠j0->sumTo r (λi=>w i*M j i)=0:=λj hj hn=>e _ (qT.mpr ⟨j,ku.mpr ⟨qE.mpr hj,by simpa using hn⟩,rfl⟩)
 have e2:sumTo r (λj=>c j*sumTo r (λi=>w i*M j i))=0:=by
  have:∀j,j<r->c j*sumTo r (λi=>w i*M j i)=sumTo r λi=>c j*M j i*w i:=λj _=>by
   rw[kX,<-zM];exact zf r λi _=>by grind
  rw[zf r this,xx,zf r (g:=λ_=>0) λi hi=>by rw[zM,hc i hi];grind];exact yx r
 rw[yR _ r hj0 λj hj hn=>by rw[e1 j hj hn];grind] at e2;have e3:sumTo r (λi=>w i*M j0 i)=0:=(kP.mp e2).resolve_left hne;refine hw (h w (λj hj=>?_) i hi);by_cases q:j=j0
 ·rw[q];exact e3
 ·exact e1 j hj q
structure Sh(n r:Nat)(P:Nat->Nat)(σ:Q2x)(V:(Nat->Rat)->Prop):Prop where
 lt:∀i,i<r->P i<n
 one:∀i j,i<r->j<r->σ i (P j)=if j=i then 1 else 0
 mem:∀i,i<r->V (σ i)
 all:∀x,V x->∀y,y<n->x y=sumTo r λi=>x (P i)*σ i y
def u3(P:Nat->Nat)(fi:Q1x):Nat->Rat:=λi=>fi (P i)
def vh(n:Nat)(P:Nat->Nat)(σ:Q2x)(st:Q3x):Nat->Nat->Nat->Rat:=λg i j=>sumTo n λa=>σ i a*st g a (P j)
def uh(n:Nat)(σ:Q2x)(la:Q1x):Nat->Rat:=λi=>sumTo n λa=>σ i a*la a
section
variable{n r s:Nat}{P:Nat->Nat}{σ:Q2x}{V:(Nat->Rat)->Prop}{st:Q3x}{fi la:Q1x}
def Sh.dot(h:Sh n r P σ V){x:Q1x}(hx:V x)(u:Q1x):sumTo n (λa=>x a*u a)=sumTo r λi=>x (P i)*sumTo n λa=>σ i a*u a:=by
 rw[zf n (g:=λa=>sumTo r λi=>σ i a*u a*x (P i)) λa ha=>by
  rw[h.all x hx a ha,<-zM];exact zf r λi _=>by grind,xx]
 exact zf r λi _=>by rw[zM];exact kX _ _
theorem Sh.row(h:Sh n r P σ V)(h0:V fi)(hs:∀g x,g<s->V x->V (led n x (st g))):∀w:List Nat,(∀g∈w,g<s)->∀x u:Nat->Rat,V x->(∀i,i<r->u i=x (P i))->V (zN n st x w)/\∀i,i<r->zN r (vh n P σ st) u w i=zN n st x w (P i)
 |[],_,x,u,hx,e=>⟨hx,e⟩
 |g::w,hw,x,u,hx,e=>by
  refine Sh.row h h0 hs w (λg' hg=>hw g' (qA _ hg)) (led n x (st g)) (led r u (vh n P σ st g)) (hs g x (hw g (ka ..)) hx) λj hj=>?_
  show sumTo r (λi=>u i*sumTo n λa=>σ i a*st g a (P j))=sumTo n λa=>x a*st g a (P j)
  rw[h.dot hx];exact zf r λi hi=>by rw[e i hi]
def Sh.wt(h:Sh n r P σ V)(h0:V fi)(hs:∀g x,g<s->V x->V (led n x (st g)))(w:LNt)(hw:∀g∈w,g<s):wt r (vh n P σ st) (u3 P fi) (uh n σ la) w=wt n st fi la w:=by
 obtain⟨hV,e⟩:=h.row h0 hs w hw fi (u3 P fi) h0 λi _=>rfl
 show sumTo r (λi=>zN r (vh n P σ st) (u3 P fi) w i*sumTo n λa=>σ i a*la a)=sumTo n λa=>zN n st fi w a*la a
 rw[h.dot hV];exact zf r λi hi=>by rw[e i hi]
theorem Sh.col(h:Sh n r P σ V)(hs:∀g x,g<s->V x->V (led n x (st g))):∀v:List Nat,(∀g∈v,g<s)->∀i,i<r->jK r (vh n P σ st) (uh n σ la) v i=sumTo n λa=>σ i a*jK n st la v a
 |[],_,i,_=>rfl
 |g::v,hv,i,hi=>by
  have hg:=hv g (ka ..);show sumTo r (λj=>sumTo n (λa=>σ i a*st g a (P j))*jK r (vh n P σ st) (uh n σ la) v j)=sumTo n λa=>σ i a*sumTo n λb=>st g a b*jK n st la v b
  rw[zf r (g:=λj=>led n (σ i) (st g) (P j)*sumTo n λa=>σ j a*jK n st la v a) λj hj=>by
   rw[Sh.col h hs v (λg' hg=>hv g' (qA _ hg)) j hj];rfl,<-h.dot (hs g _ hg (h.mem i hi))]
  have:=Yz n st (jK n st la v) [g] (σ i);exact this
def Sh.full(h:Sh n r P σ V)(hs:∀g x,g<s->V x->V (led n x (st g)))(hn:∀z:Nat->Rat,(∀v:List Nat,(∀g∈v,g<s)->sumTo n (λa=>z a*jK n st la v a)=0)->∀a,a<n->z a=0):∀y:Nat->Rat,(∀v:List Nat,(∀g∈v,g<s)->sumTo r (λi=>y i*jK r (vh n P σ st) (uh n σ la) v i)=0)->∀i,i<r->y i=0:=by
 intro y hy i hi;have key:=hn (λa=>sumTo r λi=>y i*σ i a) (λv hv=>by
  rw[<-hy v hv,zf n (g:=λa=>sumTo r λi=>y i*σ i a*jK n st la v a) λa _=>(zM _ _ r).symm,xx];refine zf r λi hi=>?_
  rw[h.col hs v hv i hi,kX (y i),<-zM];exact zf n λa _=>by grind) (P i) (h.lt i hi)
 rw[yR _ r hi λj hj hne=>by rw[h.one j i hj hi,qo (λq=>hne q.symm)];grind,h.one i i hi hi,qj rfl] at key;grind
end
def zhl(f:Q1x){a n:Nat}(h:a<n):sumTo n f=sumTo n (λx=>if x=a then 0 else f x)+f a:=by
 have e:∀x,f x=(if x=a then 0 else f x)+(if x=a then f x else 0):=λx=>by split<;>grind
 have:=JU (λx=>if x=a then 0 else f x) (λx=>if x=a then f x else 0) n;rw[<-zf n λx _=>e x,yR (λx=>if x=a then f x else 0) n h λi _ hne=>qo hne] at this;rw[this,qj rfl]
theorem zdo{n:Nat}:∀(l:LNt)(g:Q1x),l.Nodup->(∀x∈l,x<n)->(∀x,x<n->x∉l->g x=0)->sumTo n g=lsum g l
 |[],g,_,_,h=>by rw[zf n (g:=λ_=>0) λx hx=>h x hx (by simp)];exact yx n
 |a::l,g,hd,hl,h=>by
  have⟨h1,h2⟩:=ke.mp hd;rw[zhl g (hl a (ka ..)),zdo l (λx=>if x=a then 0 else g x) h2 (λx hx=>hl x (qA _ hx)) λx hx hn=>by
   by_cases e:x=a
   ·exact qj e
   ·rw[qo e];exact h x hx λq=>(qx.mp q).elim e hn]
  have e2:lsum (λx=>if x=a then 0 else g x) l=lsum g l:=vZ λj hj=>qo λ(e:j=a)=>h1 (e▸hj)
  rw[e2];show lsum g l+g a=g a+lsum g l
  grind
def zdV(f:Q1x)(l:LNt):lsum f l=sumTo l.length λi=>f (l.getD i 0):=by
 have:∀l':List Nat,lsum f l'.reverse=sumTo l'.reverse.length λi=>f (l'.reverse.getD i 0):=by
  intro l';induction l' with
  |nil=>rfl
  |cons a t ih=>
   rw[List.reverse_cons,JB,ih,qy];show sumTo t.reverse.length _+(f a+0)=sumTo t.reverse.length _+f ((t.reverse++[a]).getD t.reverse.length 0)
   have e1:(t.reverse++[a]).getD t.reverse.length 0=a:=by simp[List.getD]
   rw[e1,zf t.reverse.length (g:=λi=>f ((t.reverse++[a]).getD i 0)) λi hi=>by
    have:(t.reverse++[a]).getD i 0=t.reverse.getD i 0:=by
     rw[qB,qB,qK hi]
    rw[this]]
   grind
 have h:=this l.reverse;rwa [k8] at h
def sgm(F:LNt)(C:LZr)(d:Int)(p:Nat):Nat->Rat:=λx=>if x=p then 1 else match (F.zip C).find? (λq=>q.1==x) with
 |some q=>-(q.2 p:Rat) / (d:Rat)
 |none=>0
section
variable{n:Nat}{R:LZr}{T F:LNt}{C:LZr}{d:Int}
def zh0{F:LNt}{C:LZr}(hF:F.Nodup){i f:Nat}{c:Z1x}(hf:F[i]?=some f)(hc:C[i]?=some c):(F.zip C).find? (λq=>q.1==f)=some (f,c):=by
 induction F generalizing C i with
 |nil=>simp at hf
 |cons a F ih=>
  cases C with
  |nil=>simp at hc
  |cons b C=>
   have⟨h1,h2⟩:=ke.mp hF;cases i with
   |zero=>
    simp only [List.getElem?_cons_zero,Option.some.injEq] at hf hc;subst hf;subst hc;simp[List.zip_cons_cons]
   |succ i=>
    simp only [kZ] at hf hc;have hne:(a==f)=false:=by
     rw[beq_eq_false_iff_ne];intro e;exact h1 (e▸qN hf)
    rw[List.zip_cons_cons,List.find?_cons,hne];exact ih h2 hf hc
def zdL{F:LNt}{C:LZr}{x:Nat}(h:x∉F):(F.zip C).find? (λq=>q.1==x)=none:=by
 rw[List.find?_eq_none];intro q hq e;exact h (by
  have:=(ng hq).1;rwa [gJ.mp e] at this)
def zci{p x:Nat}(hx:x∉F):sgm F C d p x=if x=p then 1 else 0:=by
 unfold sgm;rw[zdL hx]
def zdk(h:Sp n R T F C d){p i f:Nat}{c:Z1x}(hp:p∈T)(hf:F[i]?=some f)(hc:C[i]?=some c):sgm F C d p f=-(c p:Rat) / (d:Rat):=by
 unfold sgm;rw[zh0 h.ndF hf hc,qo];intro e;exact(h.free hf).2 (e▸hp)
def Sp.sum(h:Sp n R T F C d){i f:Nat}{c:Z1x}(hc:C[i]?=some c)(hf:F[i]?=some f){Ts:LNt}(hT:Ts.Perm T)(x:Q1x):dq n (rt c) x=(d:Rat)*x f+lsum (λz=>(c z:Rat)*x z) Ts:=by
 have⟨f1,f2⟩:=h.free hf;have f3:f∉Ts:=λq=>f2 (hT.mem_iff.mp q)
 have ndT:Ts.Nodup:=hT.nodup_iff.mpr (gp.mp h.nd).1;rw[show dq n (rt c) x=sumTo n λz=>(c z:Rat)*x z from rfl,zdo (f::Ts) _ (ke.mpr ⟨f3,ndT⟩) (λz hz=>by
  rcases qx.mp hz with q|q
  ·rw[q];exact f1
  ·exact(h.mem z).mp (qr.mpr (.inl (hT.mem_iff.mp q)))) λz hz hn=>by
   have:=h.out hc hf hz (λq=>hn (qA _ (hT.mem_iff.mpr q))) λq=>hn (q▸ka ..)
   rw[this];grind]
 show(c f:Rat)*x f+_=_
 rw[h.at hc hf]
def Sp.sh(h:Sp n R T F C d){Ts:LNt}(hT:Ts.Perm T):Sh n T.length (λi=>Ts.getD i 0) (λi=>sgm F C d (Ts.getD i 0)) (In n R):=by
 have dz:(d:Rat)≠0:=λz=>h.d0 (by exact_mod_cast z)
 have hl:Ts.length=T.length:=hT.length_eq;have ndT:Ts.Nodup:=hT.nodup_iff.mpr (gp.mp h.nd).1
 have mT:∀i,i<T.length->Ts.getD i 0∈T:=λi hi=>by
  rw[qB,qk (by omega)];exact hT.mem_iff.mp (gy _)
 have nF:∀x,x∈T->x∉F:=λx hx hf=>(gp.mp h.nd).2.2 x hx x hf rfl
 have inj:∀i j,i<T.length->j<T.length->Ts.getD j 0=Ts.getD i 0->j=i:=λi j hi hj e=>by
  have a1:Ts[j]?=some (Ts.getD j 0):=by rw[qB,qk (show j<Ts.length by omega)];rfl
  have a2:Ts[i]?=some (Ts.getD i 0):=by rw[qB,qk (show i<Ts.length by omega)];rfl
  exact kx λq=>zct ndT a1 a2 q e
 have one:∀i j,i<T.length->j<T.length->sgm F C d (Ts.getD i 0) (Ts.getD j 0)=if j=i then 1 else 0:=λi j hi hj=>by
  rw[zci (nF _ (mT j hj))];by_cases q:j=i
  ·rw[qj (by rw[q]),qj q]
  ·rw[qo λe=>q (inj i j hi hj e),qo q]
 refine⟨λi hi=>(h.mem _).mp (qr.mpr (.inl (mT i hi))),one,λi hi=>(h.holds _).mp λc hc=>?_,λx hx y hy=>?_⟩
 ·obtain⟨k,hk⟩:=qP hc;have hk':k<F.length:=by rw[<-h.lenC];exact(qg.mp hk).1
  have hf:F[k]?=some F[k]:=qk hk';rw[h.sum hk hf hT,zdk h (mT i hi) hf hk,zdV,hl,yR _ _ hi λj hj hne=>by rw[one i j hi hj,qo hne];grind,one i i hi hi,qj rfl,gZ]
  have:=nv _ dz;grind
 ·rcases qr.mp ((h.mem y).mpr hy) with q|q
  ·obtain⟨j,hj⟩:=qP (hT.mem_iff.mpr q);have hj':j<T.length:=by rw[<-hl];exact(qg.mp hj).1
   have ey:y=Ts.getD j 0:=by rw[qB,hj];rfl
   rw[ey,yR _ _ hj' λi hi hne=>by rw[one i j hi hj',qo (λq=>hne q.symm)];grind,one j j hj' hj',qj rfl];grind
  ·obtain⟨k,hk⟩:=qP q;have hk':k<C.length:=by rw[h.lenC];exact(qg.mp hk).1
   have hc:C[k]?=some C[k]:=qk hk';have e:=(h.holds x).mpr hx _ (gy hk')
   rw[h.sum hc hk hT,zdV,hl] at e;rw[zf T.length (g:=λi=>(C[k] (Ts.getD i 0):Rat)*x (Ts.getD i 0)*(-(1 / (d:Rat)))) λi hi=>by
    rw[zdk h (mT i hi) hk hc,gZ,gZ];grind,zM]
   have e2:sumTo T.length (λi=>(C[k] (Ts.getD i 0):Rat)*x (Ts.getD i 0))=-((d:Rat)*x y):=by grind
   rw[e2,gZ]
   have:=nv _ dz;grind
end
section
variable{n s:Nat}{st:Q3x}{fi la:Q1x}{W:List (List Nat)}{Rw:LZr}{T F:LNt}{C:LZr}{d:Int}{a:Nat}
def RS.zea(h:RS n s st fi W Rw T F C d a)(x:Q1x):In n Rw.reverse x↔∀c:Nat->Rat,(∀v∈W,dq n c (zN n st fi v)=0)->dq n c x=0:=⟨λq c hc=>q c ((h.orth c).mp hc),λq c hc=>q c ((h.orth c).mpr hc)⟩
def RS.zeo(h:RS n s st fi W Rw T F C d a)(hs:0<s)(hd:(queue s W).length<=a\/F=[])(w:LNt)(hg:∀g∈w,g<s):In n Rw.reverse (zN n st fi w):=(h.zea _).mpr λc hc=>h.none hs hd w hg c hc
def RS.Wx(h:RS n s st fi W Rw T F C d a)(hs:0<s)(hd:(queue s W).length<=a\/F=[])(g:Nat)(x:Q1x)(hg:g<s)(hx:In n Rw.reverse x):In n Rw.reverse (led n x (st g)):=(h.zea _).mpr λc hc=>by
 rw[zb3];refine(h.zea x).mp hx _ λv hv=>?_
 obtain⟨i,hi⟩:=qP hv;rw[<-zb3,<-vS];refine h.none hs hd _ (λg' hg'=>?_) c hc;rcases qr.mp hg' with q|q
 ·exact h.rc.signs hs i v hi g' q
 ·rw[qQ.mp q];exact hg
structure Mn(n s:Nat)(st:Q3x)(fi la:Q1x)(r:Nat)(st':Q3x)(fi' la':Q1x):Prop where
 wt:∀w:List Nat,(∀g∈w,g<s)->wt r st' fi' la' w=wt n st fi la w
 kept:∃V:Nat->List Nat,(∀j,j<r->∀g∈V j,g<s)/\∀y:Nat->Rat,(∀j,j<r->sumTo r (λi=>y i*zN r st' fi' (V j) i)=0)->∀i,i<r->y i=0
 cols:(∀z:Nat->Rat,(∀v:List Nat,(∀g∈v,g<s)->sumTo n (λa=>z a*jK n st la v a)=0)->∀a,a<n->z a=0)->∀y:Nat->Rat,(∀v:List Nat,(∀g∈v,g<s)->sumTo r (λi=>y i*jK r st' la' v i)=0)->∀i,i<r->y i=0
def RS.mk0(h:RS n s st fi W Rw T F C d a)(hs:0<s)(hd:(queue s W).length<=a\/F=[]){Ts:LNt}(hT:Ts.Perm T):(∀w:List Nat,(∀g∈w,g<s)->wt T.length (vh n (λi=>Ts.getD i 0) (λi=>sgm F C d (Ts.getD i 0)) st) (u3 (λi=>Ts.getD i 0) fi) (uh n (λi=>sgm F C d (Ts.getD i 0)) la) w=wt n st fi la w)/\∃V:Nat->List Nat,(∀j,j<T.length->∀g∈V j,g<s)/\∀y:Nat->Rat,(∀j,j<T.length->sumTo T.length (λi=>y i*zN T.length (vh n (λi=>Ts.getD i 0) (λi=>sgm F C d (Ts.getD i 0)) st) (u3 (λi=>Ts.getD i 0) fi) (V j) i)=0)->∀i,i<T.length->y i=0:=by
 have S:=h.sp.sh hT;have h0:In n Rw.reverse fi:=h.zeo hs hd [] λg hg=>by cases hg
 have hl:=λg x hg hx=>h.Wx hs hd g x hg hx
 have lW:W.length=T.length:=h.len.trans h.lenT.symm;have gW:∀j,j<T.length->W[j]?=some (W.getD j []):=λj hj=>by rw[qB,qk (show j<W.length by omega)];rfl
 refine⟨λw hw=>S.wt h0 hl w hw,λj=>W.getD j [],λj hj=>h.rc.signs hs j _ (gW j hj),λy hy i hi=>?_⟩;have hl':Ts.length=T.length:=hT.length_eq;have mT:∀i,i<T.length->Ts.getD i 0∈T:=λi hi=>by
  rw[qB,qk (by omega)];exact hT.mem_iff.mp (gy _)
 have ndT:Ts.Nodup:=hT.nodup_iff.mpr (gp.mp h.sp.nd).1;have inj:∀i j,i<T.length->j<T.length->Ts.getD j 0=Ts.getD i 0->j=i:=λi j hi hj e=>by
  have a1:Ts[j]?=some (Ts.getD j 0):=by rw[qB,qk (show j<Ts.length by omega)];rfl
  have a2:Ts[i]?=some (Ts.getD i 0):=by rw[qB,qk (show i<Ts.length by omega)];rfl
  exact kx λq=>zct ndT a1 a2 q e
 have key:=h.sp.ind (λx=>sumTo T.length λi=>if x=Ts.getD i 0 then y i else 0) (λx hx hn=>by
  show sumTo T.length (λi=>if x=Ts.getD i 0 then y i else 0)=0
  rw[zf T.length (g:=λ_=>0) λi hi=>qo λ(e:x=Ts.getD i 0)=>hn (e▸mT i hi)];exact yx _) ((h.orth _).mp λv hv=>by
  obtain⟨j,hj⟩:=qP hv;have hj':j<T.length:=by rw[<-lW];exact(qg.mp hj).1
  have ev:v=W.getD j []:=by rw[qB,hj];rfl
  show sumTo n (λx=>sumTo T.length (λi=>if x=Ts.getD i 0 then y i else 0)*zN n st fi v x)=0
  rw[zf n (g:=λx=>sumTo T.length λi=>(if x=Ts.getD i 0 then y i else 0)*zN n st fi v x) λx _=>(zM _ _ _).symm,xx,<-hy j hj'];refine zf T.length λi hi=>?_
  rw[yR _ n (S.lt i hi) λx hx hne=>by rw[qo hne];grind,qj rfl];have er:=(S.row h0 hl (W.getD j []) (h.rc.signs hs j _ (gW j hj')) fi (u3 (λi=>Ts.getD i 0) fi) h0 λi _=>rfl).2 i hi;rw[er,ev]) (Ts.getD i 0) (S.lt i hi)
 have key':sumTo T.length (λj=>if Ts.getD i 0=Ts.getD j 0 then y j else 0)=0:=key;rw[yR _ _ hi λj hj hne=>qo λe=>hne (inj i j hi hj e.symm),qj rfl] at key';exact key'
def RS.mn(h:RS n s st fi W Rw T F C d a)(hs:0<s)(hd:(queue s W).length<=a\/F=[]){Ts:LNt}(hT:Ts.Perm T):Mn n s st fi la T.length (vh n (λi=>Ts.getD i 0) (λi=>sgm F C d (Ts.getD i 0)) st) (u3 (λi=>Ts.getD i 0) fi) (uh n (λi=>sgm F C d (Ts.getD i 0)) la):=have m:=h.mk0 (la:=la) hs hd hT
 ⟨m.1,m.2,λq=>(h.sp.sh hT).full (λg x hg hx=>h.Wx hs hd g x hg hx) q⟩
end
section
variable{n s:Nat}{st:Q3x}{fi la:Q1x}
theorem xA(st:Q3x)(la:Q1x):∀v:List Nat,zN n (λg a b=>st g b a) la v.reverse=jK n st la v
 |[]=>rfl
 |g::v=>by
  rw[List.reverse_cons,vS,xA st la v];funext a;exact zf n λb _=>kX _ _
def Vd(st:Q3x)(fi:Q1x)(v:LNt):jK n (λg a b=>st g b a) fi v=zN n st fi v.reverse:=(xA (λg a b=>st g b a) fi v).symm
def zfu(w:LNt):wt n (λg a b=>st g b a) la fi w=wt n st fi la w.reverse:=by
 have:=xA (n:=n) st la w.reverse;rw[k8] at this;show sumTo n (λa=>zN n (λg a b=>st g b a) la w a*fi a)=sumTo n λa=>zN n st fi w.reverse a*la a
 rw[this,Yz];exact zf n λa _=>kX _ _
def zdp{r1 r:Nat}{st1 stt:Q3x}{fi1 la1 fit lat:Q1x}(M1:Mn n s st fi la r1 st1 fi1 la1)(M2:Mn r1 s (λg a b=>st1 g b a) la1 fi1 r stt fit lat):(∀w:List Nat,(∀g∈w,g<s)->wt r (λg a b=>stt g b a) lat fit w=wt n st fi la w)/\
  ∀{n':Nat} {st':Q3x} {fi' la':Q1x},(∀w:List Nat,(∀g∈w,g<s)->wt n' st' fi' la' w=wt n st fi la w)->r<=n':=by
 have al:∀w:List Nat,(∀g∈w,g<s)->wt r (λg a b=>stt g b a) lat fit w=wt n st fi la w:=λw hw=>by
  have hr:∀g∈w.reverse,g<s:=λg hg=>hw g (kn.mp hg)
  rw[zfu,M2.wt _ hr,zfu,k8,M1.wt w hw]
 refine⟨al,λal'=>?_⟩;have⟨V,hV,kV⟩:=M2.kept;have⟨U,hU,kU⟩:=M1.kept;refine fewest (s:=s) (λw hw=>(al' w hw).trans (al w hw).symm) (λj=>(V j).reverse) (λj hj g hg=>hV j hj g (kn.mp hg)) (λc hc=>?_) λy hy=>?_
 ·refine zhR (M:=λj i=>zN r stt fit (V j) i) (λw hw=>kV w hw) c λi hi=>?_
  rw[<-hc i hi];exact zf r λj _=>by rw[Vd,k8]
 ·refine M2.cols (λz hz=>kU z λj hj=>?_) y λv hv=>?_
  ·have:=hz (U j).reverse λg hg=>hU j hj g (kn.mp hg)
   rw[Vd,k8] at this;exact this
  ·have:=hy v.reverse λg hg=>hv g (kn.mp hg)
   rw[xA] at this;rw[<-this];exact zf r λi _=>kX _ _
end
end WD.DT
namespace L2.Fu
open PySem PySem.Spec PyProof.Rows
def uu:RFx:=(sq (zX 1 (cst (.int 0)))
 (sq (jS (yw (gv 0)) (bN 2) (zX 1 (zg yM (aC (gv 2) (aC (gv 1) a0)))))
 (sq (ifS (zG (op2 ltI (gv 1) (cst (.int 2)))) (Uh (y3 uB (aC (gv 0) a0))) s0)
 (Uh (zR 1 [1] (yw (gv 0)) (bN 0) (op2 yS (gv 0) (gv 1)))))))
def xc:LLx:=fnL 3 1 uu
def W8:RFx:=(Uh (y3 xc (aC (yg (y3 yX (aC (gv 0) (aC (zg yk (aC (gv 0) a0)) a0)))) a0)))
def xM:LLx:=fnL 1 1 W8
def ZK:RFx:=(sq (jc 2 (zim (vq (aC (cst (.int 0)) a0)) (gv 1)))
 (sq (siS 2 (gv 0) (cst (.int 1)))
 (Uh (gk 2))))
def vT:LLx:=fnL 3 2 ZK
def Zs:RFx:=(Uh (zR 2 [1,3,4] (Ue false false (aC (gv 0) (aC (gv 2) a0))) (b2 (bN 0) (bN 1)) (op2 yS (op2 Yt (op2 yB (gv 3) (gv 0)) (op2 yB (gv 2) (gv 1))) (gv 4))))
def Jj:LLx:=fnL 5 5 Zs
def Vr:RFx:=(sq (exS (zg vD (aC (gv 0) (aC (gv 1) a0))))
 (retS (zg Zg (aC (gv 0) (aC (xj (aC (op2 ixD (gv 1) (cst (.int 0))) (aC (op2 ixD (gv 1) (cst (.int 1))) (aC (zg Jd (aC (op2 ixD (gv 1) (cst (.int 2))) (aC (cst (.tuple [.int (-1),.int 1])) a0))) a0)))) a0)))))
def vN:LPx:=fnF 2 2 Vr
inductive Fs where
 |pu (d:PdX)|ow (ds:LPd)|ob (C:AdX) (fs:List (Str×Fs))
mutual
inductive FOk(K:FRx)(H:Hp)(os:LAd):V->Fs->List Addr->Prop
 |pu {v:V} {d:PdX}:Rep K (offs H os) v d->FOk K H os v (.pu d) []
 |ow {a:AdX} {xs:List V} {ds:LPd}:H a=some (.lst xs)->Reps K (offs H os) xs ds->FOk K H os (.ref a) (.ow ds) [a]
 |ob {p C dx:AdX} {vs:List (Str×V)} {fs:List (Str×Fs)} {A:LAd}:H p=some (.ins C dx vs)->yZ K H os vs fs A->FOk K H os (.ref p) (.ob C fs) (p::A)
inductive yZ(K:FRx)(H:Hp)(os:LAd):List (Str×V)->List (Str×Fs)->List Addr->Prop
 |nil:yZ K H os [] [] []
 |cons {x:Str} {v:V} {c:Fs} {vs:List (Str×V)} {fs:List (Str×Fs)} {A B:LAd}:FOk K H os v c A->yZ K H os vs fs B->yZ K H os ((x,v)::vs) ((x,c)::fs) (A++B)
end
section
variable{K:FRx}{H H':Hp}{os os':LAd}
mutual
theorem FOk.keep(s:Same (offs H os) (offs H' os')):∀{v:V} {c:Fs} {A:LAd},FOk K H os v c A->(∀a∈A,H' a=H a)->FOk K H' os' v c A
 |_,_,_,.pu r,_=>.pu (r.same s)
 |_,_,_,.ow h r,q=>.ow (by rw[q _ (.head _)];exact h) (r.same s)
 |_,_,_,.ob h r,q=>.ob (by rw[q _ (.head _)];exact h) (yZ.keep s r λa ha=>q a (.tail _ ha))
theorem yZ.keep(s:Same (offs H os) (offs H' os')):∀{vs:List (Str×V)} {fs:List (Str×Fs)} {A:LAd},yZ K H os vs fs A->(∀a∈A,H' a=H a)->yZ K H' os' vs fs A
 |_,_,_,.nil,_=>.nil
 |_,_,_,.cons h r,q=>.cons (FOk.keep s h λa ha=>q a (qr.mpr (.inl ha))) (yZ.keep s r λa ha=>q a (qr.mpr (.inr ha)))
end
mutual
theorem FOk.has:∀{v:V} {c:Fs} {A:LAd},FOk K H os v c A->∀a∈A,∃o,H a=some o
 |_,_,_,.pu _,a,h=>by cases h
 |_,_,_,.ow h _,a,ha=>by rw[qQ.mp ha];exact⟨_,h⟩
 |_,_,_,.ob h r,a,ha=>by
  rcases qx.mp ha with z|z
  ·rw[z];exact⟨_,h⟩
  ·exact yZ.has r a z
theorem yZ.has:∀{vs:List (Str×V)} {fs:List (Str×Fs)} {A:LAd},yZ K H os vs fs A->∀a∈A,∃o,H a=some o
 |_,_,_,.nil,a,h=>by cases h
 |_,_,_,.cons h r,a,ha=>by
  rcases qr.mp ha with z|z
  ·exact FOk.has h a z
  ·exact yZ.has r a z
end
def FOk.same(e:Same H H'){v:V}{c:Fs}{A:LAd}(h:FOk K H os v c A):FOk K H' os v c A:=h.keep (zm e os) λa ha=>by
 have⟨o,q⟩:=h.has a ha;rw[q];exact e a o q
def fld(x:Str):List (Str×Fs)->Option Fs
 |[]=>none
 |(y,c)::fs=>if x=y then some c else fld x fs
theorem yZ.look{x:Str}:∀{vs:List (Str×V)} {fs:List (Str×Fs)} {A:LAd} {c:Fs},yZ K H os vs fs A->fld x fs=some c->∃v B,vs.lookup x=some v/\FOk K H os v c B/\∀a∈B,a∈A
 |_,_,_,_,.nil,q=>by cases q
 |_,_,_,c,@yZ.cons _ _ _ y v c' vs fs A B h r,q=>by
  unfold fld at q;by_cases z:x=y
  ·rw[qj z] at q;cases q;refine⟨v,A,?_,h,λa ha=>qr.mpr (.inl ha)⟩;rw[kq,show(x==y)=true from gJ.mpr z]
  ·rw[qo z] at q;have⟨v',B',h1,h2,h3⟩:=yZ.look r q;refine⟨v',B',?_,h2,λa ha=>qr.mpr (.inr (h3 a ha))⟩;rw[kq,show(x==y)=false from kW.mpr z];exact h1
theorem yZ.nolook{x:Str}:∀{vs:List (Str×V)} {fs:List (Str×Fs)} {A:LAd},yZ K H os vs fs A->fld x fs=none->vs.lookup x=none
 |_,_,_,.nil,_=>rfl
 |_,_,_,@yZ.cons _ _ _ y v c' vs fs A B h r,q=>by
  unfold fld at q;by_cases z:x=y
  ·rw[qj z] at q;cases q
  ·rw[qo z] at q;rw[kq,show(x==y)=false from kW.mpr z];exact yZ.nolook r q
end
structure vC(K:FRx)(C:AdX)(ℓ:Nat)(H:Hp)(os:LAd)(σ:St)(ρ:Ro)(fs:List (Str×Fs)):Prop where
 rel:xC K H os σ ρ
 ob:∃p A,σ[ℓ]?=some (some (.ref p))/\FOk K H os (.ref p) (.ob C fs) A/\∀a∈A,a∈os
def vC.same{K:FRx}{C:AdX}{ℓ:Nat}{H H':Hp}{os:LAd}{σ:St}{ρ:Ro}{fs:List (Str×Fs)}(h:vC K C ℓ H os σ ρ fs)(e:Same H H'):vC K C ℓ H' os σ ρ fs:=by
 have⟨p,A,h1,h2,h3⟩:=h.ob;exact⟨h.rel.same e,p,A,h1,h2.same e,h3⟩
abbrev Ob:=List (Str×Fs)
abbrev OPx:=Ro->Ob->Option PyData
abbrev OLx:=Ro->Ob->Option (List PyData)
abbrev MFx:=Ob->List PyData->Option (PyData×Ob)
def GE(X:Cx)(C:AdX)(ℓ:Nat)(e:Expr)(f:Ro->Ob->Option PyData):Prop:=∃t:TE,PE X e t/\∀(σ:St)(H:Hp)(os:LAd)(ρ:Ro)(fs:Ob)(d:PdX)(Q:VK),vC X.K C ℓ H os σ ρ fs->f ρ fs=some d->(∀v H',Same H H'->Rep X.K (offs H' os) v d->Q v H')->t σ H Q
def GB(X:Cx)(C:AdX)(ℓ:Nat)(e:Expr)(f:OPx):Prop:=∃t:TE,PE X e t/\∀(σ:St)(H:Hp)(os:LAd)(ρ:Ro)(fs:Ob)(d:PdX)(Q:VK),vC X.K C ℓ H os σ ρ fs->f ρ fs=some d->(∀v H',Same H H'->jL X.K H' os v d->Q v H')->t σ H Q
def GL(X:Cx)(C:AdX)(ℓ:Nat)(e:Expr)(f:OLx):Prop:=∃t:TE,PE X e t/\∀(σ:St)(H:Hp)(os:LAd)(ρ:Ro)(fs:Ob)(ds:LPd)(Q:VK),vC X.K C ℓ H os σ ρ fs->f ρ fs=some ds->
  (∀a xs H',H a=none->Same H H'->H' a=some (.lst xs)->Reps X.K (offs H' (a::os)) xs ds->Q (.ref a) H')->t σ H Q
def GT(X:Cx)(C:AdX)(ℓ:Nat)(e:Expr)(f:Ro->Ob->Option Bool):Prop:=∃t:TT,PT X e t/\∀(σ:St)(H:Hp)(os:LAd)(ρ:Ro)(fs:Ob)(b:Bool)(Q:Bool->Hp->Prop),vC X.K C ℓ H os σ ρ fs->f ρ fs=some b->(∀H',Same H H'->Q b H')->t σ H Q
section
variable{X:Cx}{C:AdX}{ℓ:Nat}{e a b:Expr}{pos:Pos}
def FE.ge{f:RPx}(h:FE X e f):GE X C ℓ e (λρ _=>f ρ):=by
 have⟨t,p,q⟩:=h;exact⟨t,p,λσ H os ρ fs d Q R e k=>q σ H os ρ d Q R.rel e k⟩
def FB.gb{f:RPx}(h:FB X e f):GB X C ℓ e (λρ _=>f ρ):=by
 have⟨t,p,q⟩:=h;exact⟨t,p,λσ H os ρ fs d Q R e k=>q σ H os ρ d Q R.rel e k⟩
def FL.gl{f:RLx}(h:FL X e f):GL X C ℓ e (λρ _=>f ρ):=by
 have⟨t,p,q⟩:=h;exact⟨t,p,λσ H os ρ fs d Q R e k=>q σ H os ρ d Q R.rel e k⟩
def FT.gt{f:Ro->Option Bool}(h:FT X e f):GT X C ℓ e (λρ _=>f ρ):=by
 have⟨t,p,q⟩:=h;exact⟨t,p,λσ H os ρ fs d Q R e k=>q σ H os ρ d Q R.rel e k⟩
def GE.gb{f:OPx}(h:GE X C ℓ e f):GB X C ℓ e f:=by
 have⟨t,p,q⟩:=h;exact⟨t,p,λσ H os ρ fs d Q R e k=>q σ H os ρ fs d Q R e λv H' s r=>k v H' s (.inl r)⟩
def gf(x:Str):OPx:=λ_ fs=>match fld x fs with |some (.pu d)=>some d|_=>none
def gg(x:Str):OPx:=λ_ fs=>match fld x fs with |some (.pu d)=>some d|some (.ow ds)=>some (.list ds)|_=>none
def Zh{x f:Str}{p:Pos}(cl:Cls X.K C)(na:zI X.K C f)(hN:X.N[ℓ]?=some x:=by rfl)(hv:Vis X.env.scope x:=by trivial)(hd:NDx x:=by decide)(hcd:NCx x:=by decide)(hb:ABx X (.Name x p) f:=by rfl):GE X C ℓ (.Attribute (.Name x p) f pos) (gf f):=by
 refine⟨_,vb (yv (i:=ℓ) hN hv hd hcd) hb,λσ H os ρ fs d Q R e k=>?_⟩;have⟨q,A,h1,h2,h3⟩:=R.ob;cases h2 with
 |ob hp r=>
  unfold gf at e;split at e
  ·rename_i d' ef;cases e;have⟨v,B,l,o,_⟩:=r.look ef;cases o with
   |pu rv=>exact⟨_,h1,_,_,_,_,_,rfl,hp,cl,na,l,k _ H (Same.refl H) rv⟩
  ·cases e
def vf{x f:Str}{p:Pos}(cl:Cls X.K C)(na:zI X.K C f)(hN:X.N[ℓ]?=some x:=by rfl)(hv:Vis X.env.scope x:=by trivial)(hd:NDx x:=by decide)(hcd:NCx x:=by decide)(hb:ABx X (.Name x p) f:=by rfl):GB X C ℓ (.Attribute (.Name x p) f pos) (gg f):=by
 refine⟨_,vb (yv (i:=ℓ) hN hv hd hcd) hb,λσ H os ρ fs d Q R e k=>?_⟩;have⟨q,A,h1,h2,h3⟩:=R.ob;cases h2 with
 |ob hp r=>
  unfold gg at e;split at e
  ·rename_i d' ef;cases e;have⟨v,B,l,o,_⟩:=r.look ef;cases o with
   |pu rv=>exact⟨_,h1,_,_,_,_,_,rfl,hp,cl,na,l,k _ H (Same.refl H) (.inl rv)⟩
  ·rename_i ds ef;cases e;have⟨v,B,l,o,_⟩:=r.look ef;cases o with
   |ow ha rv=>exact⟨_,h1,_,_,_,_,_,rfl,hp,cl,na,l,k _ H (Same.refl H) (.inr ⟨_,_,_,rfl,rfl,ha,rv⟩)⟩
  ·cases e
end
structure MSt(K:FRx)(C:AdX)(ℓ:Nat)(H0:Hp)(os0:LAd)(p:AdX)(H:Hp)(os:LAd)(σ:St)(ρ:Ro)(fs:Ob):Prop where
 sr:SRo K H0 os0 H os σ ρ
 self:σ[ℓ]?=some (some (.ref p))
 ob:∃A,FOk K H os (.ref p) (.ob C fs) A/\A.Nodup/\(∀a∈A,a∈os/\H0 a=none)/\∀(j:Nat)(c:Sl),ρ[j]?=some c->isM c=true->∀a∈A,σ[j]?≠some (some (.ref a))
inductive Flo where
 |nx (ρ:Ro) (fs:Ob)|rt (d:PdX) (fs:Ob)|rf (d:PdX)
abbrev OFx:=Ro->Ob->Option Flo
structure zhX(K:FRx)(C:AdX)(H0:Hp)(os0:LAd)(p:AdX)(H:Hp)(os:LAd)(fs:Ob):Prop where
 sm:Same H0 H
 sub:∀a∈os0,a∈os
 new:∀a∈os,a∈os0\/H0 a=none
 al:Al H os
 ob:∃A,FOk K H os (.ref p) (.ob C fs) A/\A.Nodup/\∀a∈A,a∈os/\H0 a=none
def zkZ(K:FRx)(C:AdX)(ℓ:Nat)(H0:Hp)(os0:LAd)(p:AdX)(D:Ends):Flo->Prop
 | .nx ρ fs=>∀σ H os,MSt K C ℓ H0 os0 p H os σ ρ fs->D.nx σ H
 | .rt d fs=>∀v H os,zhX K C H0 os0 p H os fs->Rep K (offs H os) v d->D.rt v H
 | .rf d=>∀v H,Same H0 H->Rep K (offs H os0) v d->D.rt v H
def OS(X:Cx)(C:AdX)(ℓ:Nat)(st:Stmt)(f:OFx):Prop:=∃t:TS,PS X st t/\∀(H0:Hp)(os0:LAd)(p:AdX)(D:Ends)(σ:St)(H:Hp)(os:LAd)(ρ:Ro)(fs:Ob)(r:Flo),MSt X.K C ℓ H0 os0 p H os σ ρ fs->f ρ fs=some r->zkZ X.K C ℓ H0 os0 p D r->t D σ H
def OSs(X:Cx)(C:AdX)(ℓ:Nat)(sts:List Stmt)(f:OFx):Prop:=∃t:TS,PSs X sts t/\∀(H0:Hp)(os0:LAd)(p:AdX)(D:Ends)(σ:St)(H:Hp)(os:LAd)(ρ:Ro)(fs:Ob)(r:Flo),MSt X.K C ℓ H0 os0 p H os σ ρ fs->f ρ fs=some r->zkZ X.K C ℓ H0 os0 p D r->t D σ H
section
variable{K:FRx}{C:AdX}{ℓ:Nat}{H0 H H':Hp}{os0 os:LAd}{p:AdX}{σ:St}{ρ:Ro}{fs:Ob}
def MSt.w8(h:MSt K C ℓ H0 os0 p H os σ ρ fs):vC K C ℓ H os σ ρ fs:=by
 have⟨A,h1,h2,h3,h4⟩:=h.ob;exact⟨h.sr.rel,p,A,h.self,h1,λa ha=>(h3 a ha).1⟩
def MSt.same(h:MSt K C ℓ H0 os0 p H os σ ρ fs)(e:Same H H'):MSt K C ℓ H0 os0 p H' os σ ρ fs:=by
 have⟨A,h1,h2,h3,h4⟩:=h.ob;exact⟨h.sr.same e,h.self,A,h1.same e,h2,h3,h4⟩
def MSt.end(h:MSt K C ℓ H0 os0 p H os σ ρ fs):zhX K C H0 os0 p H os fs:=by
 have⟨A,h1,h2,h3,h4⟩:=h.ob;exact⟨h.sr.sm,h.sr.sub,h.sr.new,h.sr.rel.al,A,h1,h2,h3⟩
def MSt.set(h:MSt K C ℓ H0 os0 p H os σ ρ fs){i:Nat}{v:V}{d:PdX}(hi:i≠ℓ)(r:Rep K (offs H os) v d):MSt K C ℓ H0 os0 p H os (σ.set i (some v)) (ρ.set i (.pu d)) fs:=by
 have⟨A,h1,h2,h3,h4⟩:=h.ob;refine⟨h.sr.set r,by rw[qH hi];exact h.self,A,h1,h2,h3,λj c q m a ha z=>?_⟩;have⟨hj,q⟩:=vt q m;rw[qH hj] at z;exact h4 j c q m a ha z
def MSt.Yq(h:MSt K C ℓ H0 os0 p H os σ ρ fs){i:Nat}{a:AdX}{xs:List V}{ds:LPd}(hi:i≠ℓ)(n:H a=none)(s:Same H H')(hx:H' a=some (.lst xs))(r:Reps K (offs H' (a::os)) xs ds):MSt K C ℓ H0 os0 p H' (a::os) (σ.set i (some (.ref a))) (ρ.set i (.ow ds)) fs:=by
 have⟨A,h1,h2,h3,h4⟩:=h.ob;have nA:a∉A:=λz=>by
  have⟨o,e⟩:=h1.has a z;rw[n] at e;cases e
 refine⟨h.sr.Yq n s hx r,by rw[qH hi];exact h.self,A,h1.keep (jo n s) λb hb=>?_,h2,λb hb=>⟨qA _ (h3 b hb).1,(h3 b hb).2⟩,λj c q m b hb z=>?_⟩
 ·have⟨o,e⟩:=h1.has b hb;rw[e];exact s b o e
 ·rcases ym q with⟨rfl,hl,rfl⟩|⟨hj,q⟩
  ·rw[kG (by rw[h.sr.rel.len];exact hl)] at z;cases z;exact nA hb
  ·rw[qH hj] at z;exact h4 j c q m b hb z
def MSt.chg(h:MSt K C ℓ H0 os0 p H os σ ρ fs){i:Nat}{a:AdX}{ys:List V}{ds es:LPd}(q:ρ[i]?=some (.ow ds))(e:σ[i]?=some (some (.ref a)))(r:Reps K (offs H os) ys es):MSt K C ℓ H0 os0 p (upd H a (.lst ys)) os σ (ρ.set i (.ow es)) fs:=by
 have⟨A,h1,h2,h3,h4⟩:=h.ob;have nA:a∉A:=λz=>h4 i _ q rfl a z e
 have⟨a',xs,e',ha,hx,_⟩:=h.sr.rel.ow i ds q;rw[e] at e';cases e';refine⟨h.sr.chg q e r,h.self,A,h1.keep (by rw[yL ha];exact Same.refl _) λb hb=>by rw[zV λz=>nA (by rw[<-z];exact hb)],h2,h3,λj c q' m b hb z=>?_⟩;rcases ym q' with⟨rfl,hl,rfl⟩|⟨hj,q'⟩
 ·rw[e] at z;cases z;exact nA hb
 ·exact h4 j c q' m b hb z
end
section
variable{X:Cx}{C:AdX}{ℓ:Nat}{st:Stmt}{rest:List Stmt}{f g:OFx}{e:Expr}{pos:Pos}
def osq(f g:OFx):OFx:=λρ fs=>match f ρ fs with |some (.nx ρ' fs')=>g ρ' fs'|r=>r
def os0:OFx:=λρ fs=>some (.nx ρ fs)
def Vv:OSs X C ℓ [] os0:=⟨_,zcj,λ_ _ _ _ _ _ _ _ _ _ R q k=>by cases q;exact k _ _ _ R⟩
def xl(h:OS X C ℓ st f):OSs X C ℓ [st] f:=by
 have⟨t,p,q⟩:=h;exact⟨t,zb5 p,q⟩
def zK(h:OS X C ℓ st f)(h2:OSs X C ℓ rest g):OSs X C ℓ (st::rest) (osq f g):=by
 have⟨t,p,q⟩:=h;have⟨t2,p2,q2⟩:=h2;refine⟨_,v9 p p2,λH0 os0 p D σ H os ρ fs r R e k=>?_⟩;unfold osq at e;split at e
 ·rename_i ρ' fs' e1;exact q H0 os0 p { D with nx:=t2 D } σ H os ρ fs _ R e1 λσ' H' os' R'=>q2 H0 os0 p D σ' H' os' ρ' fs' r R' e k
 ·cases r with
  |nx ρ' fs'=>rename_i hn;exact absurd e (hn ρ' fs')
  |rt d fs'=>exact q H0 os0 p { D with nx:=t2 D } σ H os ρ fs _ R e k
  |rf d=>exact q H0 os0 p { D with nx:=t2 D } σ H os ρ fs _ R e k
def oset(i:Nat)(f:OPx):OFx:=λρ fs=>(f ρ fs).bind λd=>some (.nx (ρ.set i (.pu d)) fs)
def UZ(i:Nat){x:Str}{pos':Pos}{f:OPx}(hN:X.N.Nodup)(he:GE X C ℓ e f)(h0:i≠ℓ:=by decide)(hi:X.N[i]?=some x:=by rfl)(hx:Loc X.env.scope x:=by trivial)(hs:swapsWith e (some (.Name x pos')) pos.line X.env=pure false:=by rfl)(hf:FNx X x:=by trivial):OS X C ℓ (.Assign [.Name x pos'] e pos) (oset i f):=by
 have⟨t,p,q⟩:=he;refine⟨_,wW hN hi hx p hs hf,λH0 os0 p D σ H os ρ fs r R e k=>?_⟩;have⟨d,e1,e2⟩:=bind_some e;cases e2;exact q σ H os ρ fs d _ R.w8 e1 λv H' s rv=>k _ _ _ ((R.same s).set h0 rv)
def W7(i:Nat)(f:OLx):OFx:=λρ fs=>(f ρ fs).bind λd=>some (.nx (ρ.set i (.ow d)) fs)
def oret(f:OPx):OFx:=λρ fs=>(f ρ fs).bind λd=>some (.rt d fs)
def wV{f:OPx}(h:GE X C ℓ e f):OS X C ℓ (.Return (some e) pos) (oret f):=by
 have⟨t,p,q⟩:=h;refine⟨_,Vc p,λH0 os0 p D σ H os ρ fs r R e k=>?_⟩;have⟨d,e1,e2⟩:=bind_some e;cases e2;exact q σ H os ρ fs d _ R.w8 e1 λv H' s rv=>k v H' os (R.same s).end rv
def oif(c:Ro->Ob->Option Bool)(f g:OFx):OFx:=λρ fs=>(c ρ fs).bind λb=>if b then f ρ fs else g ρ fs
def zhY{c:Expr}{a b:List Stmt}{fc:Ro->Ob->Option Bool}(hc:GT X C ℓ c fc)(ha:OSs X C ℓ a f)(hb:OSs X C ℓ b g):OS X C ℓ (.If c a b pos) (oif fc f g):=by
 have⟨tc,pc,qc⟩:=hc;have⟨ta,pa,qa⟩:=ha;have⟨tb,pb,qb⟩:=hb;refine⟨_,zhS pc pa pb,λH0 os0 p D σ H os ρ fs r R e k=>?_⟩;have⟨b,e1,e2⟩:=bind_some e;refine qc σ H os ρ fs b _ R.w8 e1 λH' s=>?_
 cases b with
 |true=>rw[qj rfl] at e2 ⊢;exact qa H0 os0 p D σ H' os ρ fs r (R.same s) e2 k
 |false=>rw[qo qL] at e2 ⊢;exact qb H0 os0 p D σ H' os ρ fs r (R.same s) e2 k
end
def zP(x:Str)(c:Fs):Ob->Ob
 |[]=>[(x,c)]
 |(y,d)::fs=>if y=x then (y,c)::fs else (y,d)::zP x c fs
section
variable{K:FRx}{C:AdX}{ℓ:Nat}{H0 H H':Hp}{os0 os:LAd}{p:AdX}{σ:St}{ρ:Ro}{fs:Ob}
theorem yZ.len:∀{vs:List (Str×V)} {fs:Ob} {A:LAd},yZ K H os vs fs A->vs.length=fs.length
 |_,_,_,.nil=>rfl
 |_,_,_,.cons _ r=>qR (·+1) (yZ.len r)
def zby{A B:LAd}(h1:A.Nodup)(h2:B.Nodup)(h3:∀a∈A,a∉B):(A++B).Nodup:=List.nodup_append.mpr ⟨h1,h2,λa ha b hb e=>h3 a ha (by rw[e];exact hb)⟩
def zmo{A B:LAd}(h:(A++B).Nodup):A.Nodup:=(gp.mp h).1
def zgn{A B:LAd}(h:(A++B).Nodup):B.Nodup:=(gp.mp h).2.1
def zg7{A B:LAd}(h:(A++B).Nodup):∀a∈A,a∉B:=λa ha hb=>(gp.mp h).2.2 a ha a hb rfl
theorem yZ.put{x:Str}{v:V}{c:Fs}{B:LAd}(hb:FOk K H os v c B)(ndB:B.Nodup):∀{vs:List (Str×V)} {fs:Ob} {A:LAd},yZ K H os vs fs A->A.Nodup->(∀a∈B,a∉A)->∃A',yZ K H os (uQ x v vs) (zP x c fs) A'/\A'.Nodup/\∀a∈A',a∈A\/a∈B
 |_,_,_,.nil,_,_=>⟨B++[],.cons hb .nil,by rw[kj];exact ndB,λa ha=>.inr (by rw[kj] at ha;exact ha)⟩
 |_,_,_,@yZ.cons _ _ _ y u d vs fs A0 B0 h r,nd,dj=>by
  unfold uQ zP;by_cases z:y=x
  ·rw[qj z,qj z];refine⟨B++B0,.cons hb r,zby ndB (zgn nd) λa ha hb=>dj a ha (qr.mpr (.inr hb)),λa ha=>?_⟩;rcases qr.mp ha with q|q
   ·exact .inr q
   ·exact .inl (qr.mpr (.inr q))
  ·rw[qo z,qo z];obtain⟨A',h1,h2,h3⟩:=yZ.put hb ndB r (zgn nd) λa ha q=>dj a ha (qr.mpr (.inr q))
   refine⟨A0++A',.cons h h1,zby (zmo nd) h2 λa ha q=>?_,λa ha=>?_⟩
   ·rcases h3 a q with w|w
    ·exact zg7 nd a ha w
    ·exact dj a w (qr.mpr (.inl ha))
   ·rcases qr.mp ha with q|q
    ·exact .inl (qr.mpr (.inl q))
    ·rcases h3 a q with w|w
     ·exact .inl (qr.mpr (.inr w))
     ·exact .inr w
def SRo.znk(h:SRo K H0 os0 H os σ ρ){o:HO}(hp:p∈os)(h0:H0 p=none)(hs:∀(j:Nat)(c:Sl),ρ[j]?=some c->isM c=true->σ[j]?≠some (some (.ref p))):SRo K H0 os0 (upd H p o) os σ ρ:=by
 have eo:offs (upd H p o) os=offs H os:=yL hp;refine⟨⟨λi d q=>by rw[eo];exact h.rel.pu i d q,λi c q m=>?_,λb hb=>?_,h.rel.len⟩,λb o' z=>?_,h.sub,h.new,h.al0,h.own,h.ap⟩
 ·have⟨a,o',h1,h2,h3,h4⟩:=h.rel.mu i c q m;exact⟨a,o',h1,h2,by rw[zV λz=>hs i c q m (by rw[h1,z])];exact h3,by rw[eo];exact h4⟩
 ·by_cases q:b=p
  ·rw[q];exact⟨_,zH⟩
  ·rw[zV q];exact h.rel.al b hb
 ·rw[zV λw=>by rw[w,h0] at z;cases z];exact h.sm b o' z
def SRo.grow(h:SRo K H0 os0 H os σ ρ){a:AdX}{xs:List V}{ds:LPd}(n:H a=none)(s:Same H H')(hx:H' a=some (.lst xs))(r:Reps K (offs H' (a::os)) xs ds):SRo K H0 os0 H' (a::os) σ ρ:=by
 have:=h.Yq (i:=ρ.length) n s hx r;rw[bj (qf _),bj (by rw[h.rel.len];exact qf _)] at this;exact this
def SRo.drop(h:SRo K H0 os0 H os σ ρ)(i:Nat):SRo K H0 os0 H os σ (ρ.set i .no):=by
 have m:∀{j:Nat} {c:Sl},(ρ.set i .no)[j]?=some c->c≠ .no->i≠j/\ρ[j]?=some c:=λ{j c} q hc=>by
  rcases ym q with⟨_,_,z⟩|z
  ·exact absurd z.symm hc
  ·exact z
 refine⟨⟨λj d q=>h.rel.pu j d (m q (by intro z;cases z)).2,λj c q hm=>h.rel.mu j c (m q (by intro z;rw[z] at hm;cases hm)).2 hm,h.rel.al,by rw[k7];exact h.rel.len⟩,h.sm,h.sub,h.new,h.al0,λj c q hm=>h.own j c (m q (by intro z;rw[z] at hm;cases hm)).2 hm,λj k c c' hjk q1 q2 m1 m2=>h.ap j k c c' hjk (m q1 (by intro z;rw[z] at m1;cases m1)).2 (m q2 (by intro z;rw[z] at m2;cases m2)).2 m1 m2⟩
def YH{x:Str}{v:V}{c:Fs}{A B:LAd}{dx:AdX}{vs:List (Str×V)}(sr:SRo K H0 os0 H os σ ρ)(self:σ[ℓ]?=some (some (.ref p)))(hp:H p=some (.ins C dx vs))(hf:yZ K H os vs fs A)(nd:(p::A).Nodup)(hA:∀a∈p::A,a∈os/\H0 a=none)(hs:∀(j:Nat)(c:Sl),ρ[j]?=some c->isM c=true->∀a∈p::A,σ[j]?≠some (some (.ref a)))(hb:FOk K H os v c B)(ndB:B.Nodup)(hB:∀a∈B,a∈os/\H0 a=none/\a∉p::A/\∀(j:Nat)(c:Sl),ρ[j]?=some c->isM c=true->σ[j]?≠some (some (.ref a))):MSt K C ℓ H0 os0 p (upd H p (.ins C dx (uQ x v vs))) os σ ρ (zP x c fs):=by
 have⟨pA,ndA⟩:=ke.mp nd;obtain⟨A',h1,h2,h3⟩:=yZ.put (x:=x) hb ndB hf ndA λa ha q=>(hB a ha).2.2.1 (.tail _ q)
 obtain⟨hpo,hp0⟩:=hA p (.head _);have pA':p∉A':=λz=>by
  rcases h3 p z with q|q
  ·exact pA q
  ·exact(hB p q).2.2.1 (.head _)
 have all:∀a∈p::A',a∈p::A\/a∈B:=λa ha=>by
  rcases qx.mp ha with q|q
  ·exact .inl (by rw[q];exact .head _)
  ·rcases h3 a q with w|w
   ·exact .inl (.tail _ w)
   ·exact .inr w
 refine⟨sr.znk hpo hp0 λj c q m=>hs j c q m p (.head _),self,p::A',.ob zH (h1.keep (by rw[yL hpo];exact Same.refl _) λa ha=>zV λz=>pA' (by rw[<-z];exact ha)),ke.mpr ⟨pA',h2⟩,λa ha=>?_,λj c q m a ha=>?_⟩
 ·rcases all a ha with w|w
  ·exact hA a w
  ·exact⟨(hB a w).1,(hB a w).2.1⟩
 ·rcases all a ha with w|w
  ·exact hs j c q m a w
  ·exact(hB a w).2.2.2 j c q m
end
section
variable{X:Cx}{C:AdX}{ℓ:Nat}{e:Expr}{pos pos' p0:Pos}{x f:Str}
def ofl(x:Str)(g:OPx):OFx:=λρ fs=>(g ρ fs).bind λd=>if fs.length<1000 then some (.nx ρ (zP x (.pu d) fs)) else none
def zbB{g:OPx}(cl:Cls X.K C)(na:zI X.K C f)(he:GE X C ℓ e g)(hN:X.N[ℓ]?=some x:=by rfl)(hv:Vis X.env.scope x:=by trivial)(hd:NDx x:=by decide)(hcd:NCx x:=by decide)(hs:swapsWith e (some (.Attribute (.Name x p0) f pos')) pos.line X.env=pure false:=by rfl):OS X C ℓ (.Assign [.Attribute (.Name x p0) f pos'] e pos) (ofl f g):=by
 have⟨t,pe,q⟩:=he;refine⟨_,zbD (yv (i:=ℓ) hN hv hd hcd) pe hs,λH0 os0 p D σ H os ρ fs r R e k=>?_⟩;have⟨d,e1,e2⟩:=bind_some e;split at e2
 ·rename_i hl;cases e2;refine q σ H os ρ fs d _ R.w8 e1 λv H' s rv=>?_
  have R':=R.same s;have⟨A,h1,h2,h3,h4⟩:=R'.ob
  cases h1 with
  |ob hp r=>exact⟨_,R'.self,_,_,_,_,rfl,hp,cl,na,by rw[r.len];exact hl,k _ _ _ (YH R'.sr R'.self hp r h2 h3 h4 (.pu rv) .nil λa ha=>by cases ha)⟩
 ·cases e2
def zaw(x:Str)(g:OLx):OFx:=λρ fs=>(g ρ fs).bind λd=>if fs.length<1000 then some (.nx ρ (zP x (.ow d) fs)) else none
def u4{g:OLx}(cl:Cls X.K C)(na:zI X.K C f)(he:GL X C ℓ e g)(hN:X.N[ℓ]?=some x:=by rfl)(hv:Vis X.env.scope x:=by trivial)(hd:NDx x:=by decide)(hcd:NCx x:=by decide)(hs:swapsWith e (some (.Attribute (.Name x p0) f pos')) pos.line X.env=pure false:=by rfl):OS X C ℓ (.Assign [.Attribute (.Name x p0) f pos'] e pos) (zaw f g):=by
 have⟨t,pe,q⟩:=he;refine⟨_,zbD (yv (i:=ℓ) hN hv hd hcd) pe hs,λH0 os0 p D σ H os ρ fs r R e k=>?_⟩;have⟨d,e1,e2⟩:=bind_some e;split at e2
 ·rename_i hl;cases e2;refine q σ H os ρ fs d _ R.w8 e1 λa xs H' n s hx rv=>?_
  have⟨A,h1,h2,h3,h4⟩:=R.ob;have nA:a∉A:=λz=>by
   have⟨o,e⟩:=h1.has a z;rw[n] at e;cases e
  have na0:H0 a=none:=R.sr.sm.free n;have nos:a∉os:=R.sr.rel.al.new n
  have h1':=h1.keep (jo n s) λb hb=>by
   have⟨o,e⟩:=h1.has b hb;rw[e];exact s b o e
  cases h1' with
  |ob hp r=>exact⟨_,R.self,_,_,_,_,rfl,hp,cl,na,by rw[r.len];exact hl,k _ _ _ (YH (R.sr.grow n s hx rv) R.self hp r h2 (λb hb=>⟨qA _ (h3 b hb).1,(h3 b hb).2⟩) h4 (.ow hx rv) (ke.mpr ⟨by simp,.nil⟩) λb hb=>by
    rw[qQ.mp hb];refine⟨.head _,na0,nA,λj c q m z=>?_⟩;have⟨b',o,w1,w2,_⟩:=R.sr.rel.mu j c q m;rw[z] at w1;cases w1;exact nos w2)⟩
 ·cases e2
def ofm(x:Str)(i:Nat):OFx:=λρ fs=>match ρ[i]? with
 |some (.ow ds)=>if fs.length<1000 then some (.nx (ρ.set i .no) (zP x (.ow ds) fs)) else none
 |_=>none
def zj8(i:Nat){y:Str}{p1:Pos}(cl:Cls X.K C)(na:zI X.K C f)(hN:X.N[ℓ]?=some x:=by rfl)(hv:Vis X.env.scope x:=by trivial)(hd:NDx x:=by decide)(hcd:NCx x:=by decide)(hN1:X.N[i]?=some y:=by rfl)(hv1:Vis X.env.scope y:=by trivial)(hd1:NDx y:=by decide)(hcd1:NCx y:=by decide)(hs:swapsWith (.Name y p1) (some (.Attribute (.Name x p0) f pos')) pos.line X.env=pure false:=by rfl):OS X C ℓ (.Assign [.Attribute (.Name x p0) f pos'] (.Name y p1) pos) (ofm f i):=by
 refine⟨_,zbD (yv (i:=ℓ) hN hv hd hcd) (yv (i:=i) hN1 hv1 hd1 hcd1) hs,λH0 os0 p D σ H os ρ fs r R e k=>?_⟩;unfold ofm at e;split at e
 ·rename_i ds ei;split at e
  ·rename_i hl;cases e;have⟨a,xs,w1,w2,w3,w4⟩:=R.sr.rel.ow i ds ei;have⟨A,h1,h2,h3,h4⟩:=R.ob;have nA:a∉A:=λz=>h4 i _ ei rfl a z w1
   have dr:∀{j:Nat} {c:Sl},(ρ.set i .no)[j]?=some c->isM c=true->i≠j/\ρ[j]?=some c:=λ{j c} q m=>by
    rcases ym q with⟨_,_,z⟩|z
    ·rw[<-z] at m;cases m
    ·exact z
   cases h1 with
   |ob hp r=>
    refine⟨_,w1,_,R.self,_,_,_,_,rfl,hp,cl,na,by rw[r.len];exact hl,k _ _ _ (YH (R.sr.drop i) R.self hp r h2 h3 (λj c q m b hb=>h4 j c (dr q m).2 m b hb) (.ow w3 w4) (ke.mpr ⟨by simp,.nil⟩) λb hb=>?_)⟩;rw[qQ.mp hb];exact⟨w2,R.sr.own i _ ei rfl a w1,nA,λj c q m z=>R.sr.ap i j _ c (dr q m).1 ei (dr q m).2 rfl m a w1 z⟩
  ·cases e
 ·cases e
end
section
variable{K:FRx}{C:AdX}{ℓ:Nat}{H0 H H':Hp}{os0 os:LAd}{p:AdX}{σ:St}{ρ:Ro}{fs:Ob}
theorem yZ.chg{x:Str}{a:AdX}{ys:List V}{es:LPd}(ha:a∈os)(rs:Reps K (offs H os) ys es):∀{vs:List (Str×V)} {fs:Ob} {A:LAd} {ds:LPd},yZ K H os vs fs A->A.Nodup->fld x fs=some (.ow ds)->vs.lookup x=some (.ref a)->
  yZ K (upd H a (.lst ys)) os vs (zP x (.ow es) fs) A/\a∈A
 |_,_,_,_,.nil,_,q,_=>by cases q
 |_,_,_,ds,@yZ.cons _ _ _ y u d vs fs A0 B0 h r,nd,q,l=>by
  have so:Same (offs H os) (offs (upd H a (.lst ys)) os):=by rw[yL ha];exact Same.refl _
  unfold fld at q;unfold zP;by_cases z:x=y
  ·rw[qj z] at q;rw[qj z.symm];cases q;rw[kq,show(x==y)=true from gJ.mpr z] at l;cases l;cases h with
   |ow h1 h2=>exact⟨.cons (.ow zH (by rw[yL ha];exact rs)) (r.keep so λb hb=>zV λw=>zg7 nd a (.head _) (by rw[<-w];exact hb)),.head _⟩
  ·rw[qo z] at q;rw[qo (gG z)];rw[kq,show(x==y)=false from kW.mpr z] at l;obtain⟨h1,h2⟩:=yZ.chg ha rs r (zgn nd) q l;exact⟨.cons (h.keep so λb hb=>zV λw=>zg7 nd b hb (by rw[w];exact h2)) h1,qr.mpr (.inr h2)⟩
def MSt.lst(h:MSt K C ℓ H0 os0 p H os σ ρ fs){x:Str}{ds:LPd}(q:fld x fs=some (.ow ds)):∃dx vs a xs,H p=some (.ins C dx vs)/\vs.lookup x=some (.ref a)/\H a=some (.lst xs)/\a∈os/\Reps K (offs H os) xs ds:=by
 have⟨A,h1,h2,h3,h4⟩:=h.ob;cases h1 with
 |ob hp r=>
  have⟨v,B,l,o,hB⟩:=r.look q;cases o with
  |ow ha rv=>exact⟨_,_,_,_,hp,l,ha,(h3 _ (.tail _ (hB _ (.head _)))).1,rv⟩
def MSt.zjQ(h:MSt K C ℓ H0 os0 p H os σ ρ fs){x:Str}{ds es:LPd}{dx a:AdX}{vs:List (Str×V)}{ys:List V}(q:fld x fs=some (.ow ds))(hp:H p=some (.ins C dx vs))(l:vs.lookup x=some (.ref a))(rs:Reps K (offs H os) ys es):MSt K C ℓ H0 os0 p (upd H a (.lst ys)) os σ ρ (zP x (.ow es) fs):=by
 have⟨A,h1,h2,h3,h4⟩:=h.ob;cases h1 with
 | @ob _ _ _ _ _ A hp' r=>
  rw[hp] at hp';cases hp';have⟨pA,nd⟩:=ke.mp h2;have⟨v,B,l',o,hB⟩:=r.look q;rw[l] at l';cases l';have aA:a∈A:=by
   cases o with
   |ow ha rv=>exact hB a (.head _)
  obtain⟨ao,a0⟩:=h3 a (.tail _ aA);have⟨r',_⟩:=r.chg ao rs nd q l;have pa:p≠a:=λz=>pA (by rw[z];exact aA)
  exact⟨h.sr.znk ao a0 λj c q m=>h4 j c q m a (.tail _ aA),h.self,p::A,.ob (by rw[zV pa];exact hp) r',h2,h3,h4⟩
end
section
variable{X:Cx}{C:AdX}{ℓ:Nat}{e:Expr}{pos apos cpos p0 p1 p2:Pos}{x f:Str}
def oap(x:Str)(g:OPx):OFx:=λρ fs=>match fld x fs with
 |some (.ow ds)=>(g ρ fs).bind λd=>if ds.length<16777216 then some (.nx ρ (zP x (.ow (ds++[d])) fs)) else none
 |_=>none
def zh3{g:OPx}(cl:Cls X.K C)(na:zI X.K C f)(he:GE X C ℓ e g)(hN:X.N[ℓ]?=some x:=by rfl)(hv:Vis X.env.scope x:=by trivial)(hd:NDx x:=by decide)(hcd:NCx x:=by decide)(hb:ABx X (.Name x p0) f:=by rfl)(hbase:ABx X (.Attribute (.Name x p0) f p1) "append":=by rfl)(hfew:FWx X cpos [e]:=by rfl)(hline:(apos.endLine==cpos.line)=true:=by rfl)(hs:SEx X e []:=by rfl)(hsw:swapsWith (.Call (.Attribute (.Attribute (.Name x p0) f p1) "append" apos) [e] [] cpos) none pos.line X.env=pure false:=by rfl):OS X C ℓ (.Expr (.Call (.Attribute (.Attribute (.Name x p0) f p1) "append" apos) [e] [] cpos) pos) (oap f g):=by
 have⟨t,pe,q⟩:=he;refine⟨_,uO (Vk kQ nG nE uD (vb (yv (i:=ℓ) hN hv hd hcd) hb) (yJ pe xP hs) hbase hfew hline hs) hsw,λH0 os0 p D σ H os ρ fs r R e k=>?_⟩;unfold oap at e;split at e
 ·rename_i ds ef;have⟨d,e1,e2⟩:=bind_some e;split at e2
  ·rename_i hl;cases e2;have⟨dx,vs,a,xs,hp,l,ha,ao,rv⟩:=R.lst ef;refine⟨_,R.self,_,_,_,_,_,rfl,hp,cl,na,l,.inl ⟨rfl,_,SqL.of ha⟩,q σ H os ρ fs d _ R.w8 e1 λv H' s rd=>?_⟩;exact⟨a,xs,v,rfl,rfl,s _ _ ha,by rw[rv.length];exact hl,k _ _ os ((R.same s).zjQ ef (s _ _ hp) l ((rv.same (zm s os)).append (.cons rd .nil)))⟩
  ·cases e2
 ·cases e
def opo(i:Nat)(x:Str)(g:OPx):OFx:=λρ fs=>match fld x fs,g ρ fs with
 |some (.ow ds),some (.int n)=>if 0<=n/\n<ds.length/\ds.length<=16777216 then (ds[n.toNat]?).bind λd=>some (.nx (ρ.set i (.pu d)) (zP x (.ow (ds.eraseIdx n.toNat)) fs)) else none
 |_,_=>none
def zjI(i:Nat){y:Str}{pos':Pos}{g:OPx}(hNd:X.N.Nodup)(cl:Cls X.K C)(na:zI X.K C f)(he:GE X C ℓ e g)(h0:i≠ℓ:=by decide)(hi:X.N[i]?=some y:=by rfl)(hx:Loc X.env.scope y:=by trivial)(hf:FNx X y:=by trivial)(hN:X.N[ℓ]?=some x:=by rfl)(hv:Vis X.env.scope x:=by trivial)(hd:NDx x:=by decide)(hcd:NCx x:=by decide)(hb:ABx X (.Name x p0) f:=by rfl)(hbase:ABx X (.Attribute (.Name x p0) f p1) "pop":=by rfl)(hfew:FWx X cpos [e]:=by rfl)(hline:(apos.endLine==cpos.line)=true:=by rfl)(hs:SEx X e []:=by rfl)(hsw:swapsWith (.Call (.Attribute (.Attribute (.Name x p0) f p1) "pop" apos) [e] [] cpos) (some (.Name y pos')) pos.line X.env=pure false:=by rfl):OS X C ℓ (.Assign [.Name y pos'] (.Call (.Attribute (.Attribute (.Name x p0) f p1) "pop" apos) [e] [] cpos) pos) (opo i f g):=by
 have⟨t,pe,q⟩:=he;refine⟨_,wW hNd hi hx (Vk kQ mP mN Vg (vb (yv (i:=ℓ) hN hv hd hcd) hb) (yJ pe xP hs) hbase hfew hline hs) hsw hf,λH0 os0 p D σ H os ρ fs r R e k=>?_⟩;unfold opo at e;split at e
 ·rename_i ds n ef e1;split at e
  ·rename_i hl;have⟨hl1,hl2,hl3⟩:=hl;have⟨d,e2,e3⟩:=bind_some e;cases e3;have⟨dx,vs,a,xs,hp,l,ha,ao,rv⟩:=R.lst ef;have hlen:=rv.length;refine⟨_,R.self,_,_,_,_,_,rfl,hp,cl,na,l,.inl ⟨rfl,_,SqL.of ha⟩,q σ H os ρ fs _ _ R.w8 e1 λv H' s rd=>?_⟩;cases rd;have hlt:n.toNat<xs.length:=by omega
   have⟨u,eu,ru⟩:=rv.getD e2;refine⟨a,xs,n,n.toNat,u,rfl,rfl,s _ _ ha,by omega,by omega,?_,eu,?_⟩
   ·unfold seqIndex?;dsimp only;rw[qo (by omega:¬n<0),qj (by rw[mU];exact⟨qG hl1,qG (by omega)⟩)]
   ·exact k _ _ os (((R.same s).zjQ ef (s _ _ hp) l (v3 _ (rv.same (zm s os)))).set h0 (by rw[yL ao];exact ru.same (zm s os)))
  ·cases e
 ·cases e
def opl(i j:Nat)(g:OPx):OFx:=λρ fs=>match ρ[j]?,g ρ fs with
 |some (.ow ds),some (.int n)=>if 0<=n/\n<ds.length/\ds.length<=16777216 then (ds[n.toNat]?).bind λd=>some (.nx ((ρ.set j (.ow (ds.eraseIdx n.toNat))).set i (.pu d)) fs) else none
 |_,_=>none
def zjV(i j:Nat){y z:Str}{pos':Pos}{g:OPx}(hNd:X.N.Nodup)(he:GE X C ℓ e g)(h0:i≠ℓ:=by decide)(hi:X.N[i]?=some y:=by rfl)(hx:Loc X.env.scope y:=by trivial)(hf:FNx X y:=by trivial)(hN:X.N[j]?=some z:=by rfl)(hv:Vis X.env.scope z:=by trivial)(hd:NDx z:=by decide)(hcd:NCx z:=by decide)(hbase:ABx X (.Name z p1) "pop":=by rfl)(hfew:FWx X cpos [e]:=by rfl)(hline:(apos.endLine==cpos.line)=true:=by rfl)(hs:SEx X e []:=by rfl)(hsw:swapsWith (.Call (.Attribute (.Name z p1) "pop" apos) [e] [] cpos) (some (.Name y pos')) pos.line X.env=pure false:=by rfl):OS X C ℓ (.Assign [.Name y pos'] (.Call (.Attribute (.Name z p1) "pop" apos) [e] [] cpos) pos) (opl i j g):=by
 have⟨t,pe,q⟩:=he;refine⟨_,wW hNd hi hx (Vk kQ mP mN Vg (yv hN hv hd hcd) (yJ pe xP hs) hbase hfew hline hs) hsw hf,λH0 os0 p D σ H os ρ fs r R e k=>?_⟩;unfold opl at e;split at e
 ·rename_i ds n ef e1;split at e
  ·rename_i hl;have⟨hl1,hl2,hl3⟩:=hl;have⟨d,e2,e3⟩:=bind_some e;cases e3;have⟨a,xs,w1,ao,ha,rv⟩:=R.sr.rel.ow j ds ef;have hlen:=rv.length;refine⟨_,w1,.inl ⟨rfl,_,SqL.of ha⟩,q σ H os ρ fs _ _ R.w8 e1 λv H' s rd=>?_⟩;cases rd;have hlt:n.toNat<xs.length:=by omega
   have⟨u,eu,ru⟩:=rv.getD e2;refine⟨a,xs,n,n.toNat,u,rfl,rfl,s _ _ ha,by omega,by omega,?_,eu,?_⟩
   ·unfold seqIndex?;dsimp only;rw[qo (by omega:¬n<0),qj (by rw[mU];exact⟨qG hl1,qG (by omega)⟩)]
   ·exact k _ _ os (((R.same s).chg ef w1 (v3 _ (rv.same (zm s os)))).set h0 (by rw[yL ao];exact ru.same (zm s os)))
  ·cases e
 ·cases e
end
def isort(ns:List Int):List Int:=ns.mergeSort (λa b=>decide (a<=b))
def zeR{ns' ns:List Int}(p:ns'.Perm ns)(h:ns'.Pairwise (·<=·)):ns'=isort ns:=by
 have h2:(isort ns).Pairwise (λa b=>decide (a<=b)=true):=List.pairwise_mergeSort (λa b c=>by simp only [decide_eq_true_eq];omega) (λa b=>by simp only [Bool.or_eq_true,decide_eq_true_eq];omega) ns;have h3:(isort ns).Pairwise (·<=·):=h2.imp λh=>by simpa using h
 exact List.Perm.eq_of_pairwise (λa b _ _ h1 h2=>Int.le_antisymm h1 h2) h h3 (p.trans (List.mergeSort_perm ns _).symm)
def UO(ns:List Int):(isort ns).Perm ns:=List.mergeSort_perm ns _
theorem zd3:∀{ns:List Int} {us:LVl},Vals (ns.map V.int) us->IntsAre us ns
 |[],_,h=>by cases h;exact .nil
 |n::ns,_,h=>by
  cases h with
  |cons h r=>
   have ih:=zd3 r;obtain⟨t,rfl⟩:=h;exact .cons _ _ ih
theorem Uz:∀{ns:List Int} {us:LVl},Vals (ns.map V.int) us->us.length=ns.length
 |[],_,h=>by cases h;rfl
 |n::ns,_,h=>by
  cases h with
  |cons h r=>simp only [qX,Uz r]
def zhN{ns:List Int}{us:LVl}(h:IntsAre us ns):Vals (ns.map V.int) us:=by
 induction h with
 |nil=>exact .nil
 |cons n t _ ih=>exact .cons ⟨t,rfl⟩ ih
section
variable{X:Cx}
def zgm:bootBuiltins "sorted"=some (.builtin "sorted"):=by decide+kernel
def zc2:vF X (.builtin "sorted") (λxs H Q=>∃(p:AdX)(ns:List Int),xs=[.ref p]/\SqL X.K H p (ns.map V.int)/\ns.length<64/\∀l,H l=none->Q (.ref l) (upd H l (.lst ((isort ns).map V.int)))):=by
 intro pins s σ H xs us Q I r h;obtain⟨p,ns,rfl,hS,h64,q⟩:=h;obtain⟨u,rfl,ru⟩:=vals1 r;cases ru;have⟨its,rv,pl,hz⟩:=I.list hS;have hL:=pl.isList;have hlen:its.length=ns.length:=Uz rv
 refine sorted_ints hL (zd3 rv) (by omega) λout ns' a1 a2 a3=>?_
 have e:=zeR a2 a3;subst e;have⟨c',hc'⟩:=sortedAll_at s.heap its out
 refine⟨.ref (s.heap.objs.size+1),_,I.laid (o:=.lst ((isort ns).map V.int)) (t':=s.toks) (λb o e=>sortedAll_old e) (mY _) ⟨?_,out.toList,c',zhN a1,?_⟩,rfl,q _ (I.hok.fresh (mY _))⟩
 ·rw[qe,(UO ns).length_eq]
  have:=WY;show ns.length<=16777216
  omega
 ·simpa using hc'
end
section
variable{X:Cx}{e:Expr}{pos apos cpos p1:Pos}
def zeh(i j:Nat)(g:RPx):RFx:=λρ=>match ρ[j]?,g ρ with
 |some (.ow ds),some (.int n)=>if 0<=n/\n<ds.length/\ds.length<=16777216 then (ds[n.toNat]?).bind λd=>some (.nx ((ρ.set j (.ow (ds.eraseIdx n.toNat))).set i (.pu d))) else none
 |_,_=>none
def zl3(i j:Nat){y z:Str}{pos':Pos}{g:RPx}(hNd:X.N.Nodup)(he:FE X e g)(hi:X.N[i]?=some y:=by rfl)(hx:Loc X.env.scope y:=by trivial)(hf:FNx X y:=by trivial)(hN:X.N[j]?=some z:=by rfl)(hv:Vis X.env.scope z:=by trivial)(hd:NDx z:=by decide)(hcd:NCx z:=by decide)(hbase:ABx X (.Name z p1) "pop":=by rfl)(hfew:FWx X cpos [e]:=by rfl)(hline:(apos.endLine==cpos.line)=true:=by rfl)(hs:SEx X e []:=by rfl)(hsw:swapsWith (.Call (.Attribute (.Name z p1) "pop" apos) [e] [] cpos) (some (.Name y pos')) pos.line X.env=pure false:=by rfl):FS X (.Assign [.Name y pos'] (.Call (.Attribute (.Name z p1) "pop" apos) [e] [] cpos) pos) (zeh i j g):=by
 have⟨t,pe,q⟩:=he;refine⟨_,wW hNd hi hx (Vk kQ mP mN Vg (yv hN hv hd hcd) (yJ pe xP hs) hbase hfew hline hs) hsw hf,λH0 os0 D σ H os ρ r R e k=>?_⟩;unfold zeh at e;split at e
 ·rename_i ds n ef e1;split at e
  ·rename_i hl;have⟨hl1,hl2,hl3⟩:=hl;have⟨d,e2,e3⟩:=bind_some e;cases e3;have⟨a,xs,w1,ao,ha,rv⟩:=R.rel.ow j ds ef;have hlen:=rv.length;refine⟨_,w1,.inl ⟨rfl,_,SqL.of ha⟩,q σ H os ρ _ _ R.rel e1 λv H' s rd=>?_⟩;cases rd;have⟨u,eu,ru⟩:=rv.getD e2
   refine⟨a,xs,n,n.toNat,u,rfl,rfl,s _ _ ha,by omega,by omega,?_,eu,?_⟩
   ·unfold seqIndex?;dsimp only;rw[qo (by omega:¬n<0),qj (by rw[mU];exact⟨qG hl1,qG (by omega)⟩)]
   ·refine k _ _ os (((R.same s).chg ef w1 (v3 _ (rv.same (zm s os)))).set (by rw[yL ao];exact ru.same (zm s os))) ?_;rw[yL ao];exact zm s os
  ·cases e
 ·cases e
end
def GIB(X:Cx)(C:AdX)(ℓ:Nat)(tg iter:Expr)(f:OLx):Prop:=∃wi:TI,PI X tg iter wi/\∀(σ:St)(H:Hp)(os:LAd)(ρ:Ro)(fs:Ob)(ds:LPd)(R:It->Hp->Prop),vC X.K C ℓ H os σ ρ fs->f ρ fs=some ds->
  (∀J H',Same H H'->Walks X.K H' (offs H' os) J ds->R J H')->wi σ H R
def GAB(X:Cx)(C:AdX)(ℓ:Nat)(es:List Expr)(f:OLx):Prop:=∃t:TA,PA X es t/\∀(σ:St)(H:Hp)(os:LAd)(ρ:Ro)(fs:Ob)(ds:LPd)(Q:List V->Hp->Prop),vC X.K C ℓ H os σ ρ fs->f ρ fs=some ds->
  (∀vs H',Same H H'->j5 X.K H' os vs ds->Q vs H')->t σ H Q
def gA0:OLx:=λ_ _=>some []
def gAC(f:OPx)(g:OLx):OLx:=λρ fs=>(f ρ fs).bind λx=>(g ρ fs).map (x::·)
def gsq(g:OPx):OLx:=λρ fs=>match g ρ fs with
 |some (.list ds)=>some ds
 |some (.tuple ds)=>some ds
 |_=>none
def gzp(t1 t2:Bool)(g:OLx):OLx:=λρ fs=>match g ρ fs with
 |some [x,y]=>match kindOf x,kindOf y with
  |some (k1,xs),some (k2,ys)=>if k1=t1/\k2=t2 then some (Jr xs ys) else none
  |_,_=>none
 |_=>none
section
variable{X:Cx}{C:AdX}{ℓ:Nat}{tg iter l a b e:Expr}{es tes:List Expr}{f:OPx}{g:OLx}{p pos tp:Pos}
def FIB.gib{f:RLx}(h:FIB X tg iter f):GIB X C ℓ tg iter (λρ _=>f ρ):=by
 have⟨t,p,q⟩:=h;exact⟨t,p,λσ H os ρ fs d Q R e k=>q σ H os ρ d Q R.rel e k⟩
def zkj(hl:GB X C ℓ l f):GIB X C ℓ tg l (gsq f):=by
 have⟨t,pl,ql⟩:=hl;refine⟨_,ze5 pl,λσ H os ρ fs ds R rel e k=>?_⟩;unfold gsq at e;split at e
 ·rename_i es e1;cases e;refine ql σ H os ρ fs _ _ rel e1 λv H' s r=>?_
  obtain⟨a,xs,rfl,hS,r⟩:=r.lst;exact⟨_,false,rfl,⟨_,hS⟩,k _ H' s (ve (t:=false) hS r)⟩
 ·rename_i es e1;cases e;refine ql σ H os ρ fs _ _ rel e1 λv H' s r=>?_
  obtain⟨a,xs,rfl,hS,_,r⟩:=r.tup;exact⟨_,true,rfl,⟨_,hS⟩,k _ H' s (ve (t:=true) hS r)⟩
 ·cases e
def Wc:GAB X C ℓ [] gA0:=⟨_,xP,λ_ H _ _ _ _ _ _ q k=>by cases q;exact k [] H (Same.refl H) .nil⟩
def uE(ha:GB X C ℓ e f)(hr:GAB X C ℓ es g)(hs:SEx X e es:=by rfl):GAB X C ℓ (e::es) (gAC f g):=by
 have⟨ta,pa,qa⟩:=ha;have⟨tb,pb,qb⟩:=hr;refine⟨_,yJ pa pb hs,λσ H os ρ fs ds Q R q k=>?_⟩;have⟨d,e1,q⟩:=bind_some q;have⟨r,e2,e3⟩:=map_some q;subst e3;exact qa σ H os ρ fs d _ R e1 λx H1 s1 r1=>qb σ H1 os ρ fs r _ (R.same s1) e2 λxs H2 s2 r2=>k _ H2 (s1.trans s2) (.cons (r1.same s2) r2)
def zjd{kk:Nat}(t1 t2:Bool)(hg:Gl X "zip")(hm:X.mg "zip"=none)(ha:GAB X C ℓ [a,b] g)(hs:starEach [a,b] X.env=[(false,eval a X.env),(false,eval b X.env)]:=by rfl)(hs2:starEach [b] X.env=[(false,eval b X.env)]:=by rfl):GIB X C ℓ (.Tuple tes kk tp) (.Call (.Name "zip" p) [a,b] [] pos) (gzp t1 t2 g):=by
 have⟨t,pa,qa⟩:=ha;refine⟨_,zeD t1 t2 hg hm pa hs hs2,λσ H os ρ fs ds R rel e k=>?_⟩;unfold gzp at e;split at e
 ·rename_i x y e1;split at e
  ·rename_i k1 xs k2 ys e2 e3;split at e
   ·rename_i hc;cases e;obtain⟨rfl,rfl⟩:=hc;refine qa σ H os ρ fs _ _ rel e1 λvs H' s r=>?_
    obtain⟨v,u,rfl,r1,r2⟩:=r.two;obtain⟨a1,us,rfl,h1,q1⟩:=uH r1 e2;obtain⟨a2,ws,rfl,h2,q2⟩:=uH r2 e3;exact⟨a1,a2,rfl,⟨_,h1⟩,⟨_,h2⟩,k _ H' s (WO h1 h2 q1 q2)⟩
   ·cases e
  ·cases e
 ·cases e
end
def GJ(X:Cx)(C:AdX)(j:Nat)(e:Expr)(f:OPx):Prop:=∃t:TE,PE X e t/\∀(σ:St)(H:Hp)(os:LAd)(ρ:Ro)(fs:Ob)(p:AdX)(A:LAd)(d:PdX)(Q:VK),xC X.K H os σ ρ->σ[j]?=some (some (.ref p))->FOk X.K H os (.ref p) (.ob C fs) A->(∀a∈A,a∈os)->f ρ fs=some d->
  (∀v H',Same H H'->Rep X.K (offs H' os) v d->Q v H')->t σ H Q
def GJA(X:Cx)(C:AdX)(j:Nat)(es:List Expr)(f:OLx):Prop:=∃t:TA,PA X es t/\∀(σ:St)(H:Hp)(os:LAd)(ρ:Ro)(fs:Ob)(p:AdX)(A:LAd)(ds:LPd)(Q:List V->Hp->Prop),xC X.K H os σ ρ->σ[j]?=some (some (.ref p))->FOk X.K H os (.ref p) (.ob C fs) A->(∀a∈A,a∈os)->f ρ fs=some ds->
  (∀vs H',Same H H'->Reps X.K (offs H' os) vs ds->Q vs H')->t σ H Q
section
variable{X:Cx}{C:AdX}{ℓ:Nat}{j k k':Nat}{e:Expr}{es:List Expr}{f:OPx}{g:OLx}{p pos p0:Pos}{x:Str}{ps:LSr}
def FE.gj{f:RPx}(h:FE X e f):GJ X C j e (λρ _=>f ρ):=by
 have⟨t,p,q⟩:=h;exact⟨t,p,λσ H os ρ fs _ _ d Q R _ _ _ e k=>q σ H os ρ d Q R e k⟩
def zfx:GJA X C j [] gA0:=⟨_,xP,λ_ H _ _ _ _ _ _ _ _ _ _ _ q k=>by cases q;exact k [] H (Same.refl H) .nil⟩
def uK(ha:GJ X C j e f)(hr:GJA X C j es g)(hs:SEx X e es:=by rfl):GJA X C j (e::es) (gAC f g):=by
 have⟨ta,pa,qa⟩:=ha;have⟨tb,pb,qb⟩:=hr;refine⟨_,yJ pa pb hs,λσ H os ρ fs p A ds Q R sj o oA q k=>?_⟩;have⟨d,e1,q⟩:=bind_some q;have⟨r,e2,e3⟩:=map_some q;subst e3;exact qa σ H os ρ fs p A d _ R sj o oA e1 λx H1 s1 r1=>qb σ H1 os ρ fs p A r _ (R.same s1) sj (o.same s1) oA e2 λxs H2 s2 r2=>k _ H2 (s1.trans s2) (.cons (r1.same (zm s2 os)) r2)
def zl2{n:Str}(cl:Cls X.K C)(na:zI X.K C n)(hN:X.N[j]?=some x:=by rfl)(hv:Vis X.env.scope x:=by trivial)(hd:NDx x:=by decide)(hcd:NCx x:=by decide)(hb:ABx X (.Name x p0) n:=by rfl):GJ X C j (.Attribute (.Name x p0) n pos) (gf n):=by
 refine⟨_,vb (yv (i:=j) hN hv hd hcd) hb,λσ H os ρ fs p A d Q R sj o oA e k=>?_⟩;cases o with
 |ob hp r=>
  unfold gf at e;split at e
  ·rename_i d' ef;cases e;have⟨v,B,l,o,_⟩:=r.look ef;cases o with
   |pu rv=>exact⟨_,sj,_,_,_,_,_,rfl,hp,cl,na,l,k _ H (Same.refl H) rv⟩
  ·cases e
def gcall(h:LPx)(g:OLx):OPx:=λρ fs=>(g ρ fs).bind h
def zkz{h:LPx}(D:yA X.prog X.w X.K X.mg X.base k x ps h)(hr:Room k' X.A)(hg:Gl X x)(ha:GJA X C j (e::es) g)(hk:k<=k':=by decide)(hdb:NDx x:=by decide)(he:SEx X e es:=by rfl)(hpl:PLx X pos es:=by rfl):GJ X C j (.Call (.Name x p) (e::es) [] pos) (gcall h g):=by
 have⟨t,pa,qa⟩:=ha;refine⟨_,WU D hr hg Jn pa hk hdb he hpl,λσ H os ρ fs p A c Q R sj o oA q k=>?_⟩;have⟨ds,e1,e2⟩:=bind_some q;refine qa σ H os ρ fs p A ds _ R sj o oA e1 λvs H' s rv=>?_
 rw[kj];exact⟨os,ds,c,R.al.same s,rv,e2,λv H2 s2=>k v H2 (s.trans s2)⟩
end
def tJ(K:FRx)(C:AdX)(j:Nat)(f:OPx):TE:=λσ H Q=>∃fs os ρ d p A,xC K H os σ ρ/\σ[j]?=some (some (.ref p))/\FOk K H os (.ref p) (.ob C fs) A/\(∀a∈A,a∈os)/\f ρ fs=some d/\∀v H',Same H H'->Rep K (offs H' os) v d->Q v H'
def GJ.pe{X:Cx}{C:AdX}{j:Nat}{e:Expr}{f:OPx}(h:GJ X C j e f):PE X e (tJ X.K C j f):=by
 have⟨t,p,q⟩:=h;intro pins s σ H Q I z;have⟨fs,os,ρ,d,a,A,R,sj,o,oA,e1,k⟩:=z;exact p pins s σ H Q I (q σ H os ρ fs a A d Q R sj o oA e1 k)
def ZN{K:FRx}{T:Nat}{F:LNt}{b:PyData->Ro->Option Ro}{fe:OPx}{σ:St}{ρ:Ro}{H1:Hp}{os:LAd}{D:AdX}{is:LNt}{k:Addr->Hp->Prop}{J:It}{ds rs:LPd}{C:AdX}{fs:Ob}{j:Nat}{p:AdX}{A:LAd}(his:∀i∈is,i<T)(R:xC K H1 os σ ρ)(hj:(F[j]?).bind (λi=>(σ[i]?).join)=some (.ref p))(hO:FOk K H1 os (.ref p) (.ob C fs) A)(hOA:∀a∈A,a∈os)(hn:ds.length<=16777216)(hD:H1 D=none)(W:Walks K H1 (offs H1 os) J ds)(hm:Jp (λd=>(b d (compEnv T F ρ)).bind λρ'=>fe ρ' fs) ds=some rs)(fin:∀H' xs,Same H1 H'->H' D=some (.lst xs)->Reps K (offs H' (D::os)) xs rs->k D H'):ziN T F (gF K is b) (tJ K C (T+j) fe) k σ H1 D J:=by
 have hlr:=ZQ hm;have so:∀H',Same H1 H'->Same (offs H1 os) (offs H' (D::os)):=λH' s c o z=>by
  by_cases hb:c∈os
  ·rw[xN hb] at z;cases z
  ·rw[zw hb] at z;rw[zw]
   ·exact s c o z
   ·intro w;rcases qx.mp w with w|w
    ·rw[w,hD] at z;cases z
    ·exact hb w
 have al:∀H' xs,Same H1 H'->H' D=some (.lst xs)->Al H' (D::os):=λH' xs s hx a ha=>by
  rcases qx.mp ha with z|z
  ·subst z;exact⟨_,hx⟩
  ·have⟨o,e⟩:=R.al a z;exact⟨o,s _ _ e⟩
 refine⟨λi m σ' H'=>m=ds.length - i/\i<=ds.length/\(∃ts:St,ts.length=T/\σ'=ts++F.map λj=>(σ[j]?).join)/\Same H1 H'/\∃xs,H' D=some (.lst xs)/\Reps K (offs H' (D::os)) xs (rs.take i),
  ⟨ds.length,rfl,kE _,⟨List.replicate T none,by simp,rfl⟩,ya hD _,[],zH,.nil⟩,?_⟩
 rintro i m σ' H' ⟨rfl,hi,⟨ts,hts,rfl⟩,sm,xs,hx,rp⟩;have hl:xs.length=i:=by
  have:=rp.length;rw[kD,hlr] at this;omega
 obtain⟨w1,w2⟩:=W H' (D::os) (al H' xs sm hx) sm (so H' sm);by_cases hlt:i<ds.length
 ·obtain⟨d,hd⟩:∃d,ds[i]?=some d:=⟨_,qk hlt⟩;have⟨g1,g2⟩:=w1 i d hd;have⟨r,hr,e⟩:=Zt hm hd;have⟨ρ',e1,e2⟩:=bind_some e;refine .inr ⟨g1,λσ2 H2=>i+1<=ds.length/\(∃ts:St,ts.length=T/\σ2=ts++F.map λj=>(σ[j]?).join)/\Same H1 H2/\∃xs,H2 D=some (.lst xs)/\Reps K (offs H2 (D::os)) xs (rs.take (i+1)),?_,?_⟩
  ·rintro σ2 H2 ⟨h1,h2,h3,h4⟩;exact⟨ds.length - (i+1),by omega,rfl,h1,h2,h3,h4⟩
  ·intro x H2 hy;have⟨s2,rx⟩:=g2 x H2 hy;refine⟨D::os,d,compEnv T F ρ,ρ',rx,e1,λσ2 st=>?_⟩;have R2:xC K H2 (D::os) (ts++F.map λj=>(σ[j]?).join) (compEnv T F ρ):=Y8 T F R hD (sm.trans s2) (s2 _ _ hx) hts;have hts2:∃ts':St,ts'.length=T/\σ2=ts'++F.map λj=>(σ[j]?).join:=st.tail his hts rfl
   have sj:σ2[T+j]?=some (some (.ref p)):=by
    have⟨ts',h1,h2⟩:=hts2;rw[h2,<-h1,qz (ml _ _),bx,qq];cases hF:F[j]? with
    |none=>rw[hF] at hj;cases hj
    |some i=>
     rw[hF] at hj;exact qR some hj
   refine⟨fs,D::os,ρ',r,p,A,R2.sets st,sj,hO.keep (so H2 (sm.trans s2)) (λb hb=>by
    have⟨o,q⟩:=hO.has b hb;rw[q];exact(sm.trans s2) b o q),(λa ha=>qA _ (hOA a ha)),e2,λv H4 s4 rv=>?_⟩
   refine⟨xs,s4 _ _ (s2 _ _ hx),?_,hlt,hts2,((sm.trans s2).trans s4).WZ hD _,_,zH,?_⟩
   ·rw[hl];show i<16777216
    omega
   ·rw[jA,gR,hr];exact(rp.same (zm (s2.trans s4) _)).append (.cons rv .nil)
 ·have e:i=ds.length:=by omega
  subst e;refine .inl ⟨w2,fin H' xs sm hx ?_⟩;rw[<-hlr,gx] at rp;exact rp
def ocomp(T:Nat)(F:LNt)(fi:OLx)(b:PyData->Ro->Option Ro)(fe:RPx):OLx:=λρ fs=>
 (fi ρ fs).bind λds=>if ds.length<=16777216 then Jp (λd=>(b d (compEnv T F ρ)).bind fe) ds else none
section
variable{X:Cx}{C:AdX}{ℓ:Nat}{elt tg iter:Expr}{scope:Scope}{pos pos' spos:Pos}{Ts:LSr}{F:LNt}{is:LNt}{fi:OLx}{b:PyData->Ro->Option Ro}{fe:RPx}{x:Str}
def zjf(i:Nat)(hN:X.N.Nodup)(hc:X.calm=true)(hi:GIB X C ℓ tg iter fi)(S:yc X scope)(hF:∀j∈F,∃x,X.N[j]?=some x/\scope.names.lookup x=some .free)(hg:∀cl C ex s H,FG (z9 X (Ts++F.map λj=>X.N.getD j "") scope cl C ex s H) tg is b)(he:∀cl C ex s H,FE (z9 X (Ts++F.map λj=>X.N.getD j "") scope cl C ex s H) elt fe)(his:∀i∈is,i<Ts.length:=by decide)(h0:i≠ℓ:=by decide)(hi':X.N[i]?=some x:=by rfl)(hx:X.env.scope.names.lookup x=some .local:=by rfl)(hsw:swapsWith (.ListComp elt [⟨tg,iter,[],0⟩] scope pos) (some (.Name x pos')) spos.line X.env=pure true:=by rfl)(hs:FSx X iter:=by exact λ_=>rfl):OS X C ℓ (.Assign [.Name x pos'] (.ListComp elt [⟨tg,iter,[],0⟩] scope pos) spos) (W7 i (ocomp Ts.length F fi b fe)):=by
 have⟨wi,pi,qi⟩:=hi;refine⟨_,U2 (Ts:=Ts) (F:=F) (g:=gF X.K is b) (te:=tF X.K fe) hN hi' hx hc pi S hF hg (λcl C ex s H=>(he cl C ex s H).pe) hsw hs,λH0 os0 p D σ H os ρ fs r R q k=>?_⟩;have⟨ds,e1,q⟩:=bind_some q;cases q;have⟨es,e1,q⟩:=bind_some e1;split at q
 ·rename_i hl;refine qi σ H os ρ fs es _ R.w8 e1 λJ H' s W D hD=>?_
  exact u5 his (R.sr.rel.same s) hl hD W q λH2 xs s2 hx r=>k _ _ _ (R.Yq h0 (s.free hD) (s.trans s2) hx r)
 ·cases q
def UR(T:Nat)(F:LNt)(fi:OLx)(b:PyData->Ro->Option Ro)(fe:OPx):OLx:=λρ fs=>
 (fi ρ fs).bind λds=>if ds.length<=16777216 then Jp (λd=>(b d (compEnv T F ρ)).bind λρ'=>fe ρ' fs) ds else none
def zh1(i j:Nat){fe:OPx}(hN:X.N.Nodup)(hc:X.calm=true)(hi:GIB X C ℓ tg iter fi)(S:yc X scope)(hF:∀j∈F,∃x,X.N[j]?=some x/\scope.names.lookup x=some .free)(hj:F[j]?=some ℓ)(hg:∀cl C ex s H,FG (z9 X (Ts++F.map λj=>X.N.getD j "") scope cl C ex s H) tg is b)(he:∀cl C' ex s H,GJ (z9 X (Ts++F.map λj=>X.N.getD j "") scope cl C' ex s H) C (Ts.length+j) elt fe)(his:∀i∈is,i<Ts.length:=by decide)(h0:i≠ℓ:=by decide)(hi':X.N[i]?=some x:=by rfl)(hx:X.env.scope.names.lookup x=some .local:=by rfl)(hsw:swapsWith (.ListComp elt [⟨tg,iter,[],0⟩] scope pos) (some (.Name x pos')) spos.line X.env=pure true:=by rfl)(hs:FSx X iter:=by exact λ_=>rfl):OS X C ℓ (.Assign [.Name x pos'] (.ListComp elt [⟨tg,iter,[],0⟩] scope pos) spos) (W7 i (UR Ts.length F fi b fe)):=by
 have⟨wi,pi,qi⟩:=hi;refine⟨_,U2 (Ts:=Ts) (F:=F) (g:=gF X.K is b) (te:=tJ X.K C (Ts.length+j) fe) hN hi' hx hc pi S hF hg (λcl C ex s H=>(he cl C ex s H).pe) hsw hs,λH0 os0 p D σ H os ρ fs r R q k=>?_⟩;have⟨ds,e1,q⟩:=bind_some q;cases q;have⟨es,e1,q⟩:=bind_some e1;split at q
 ·rename_i hl;refine qi σ H os ρ fs es _ R.w8 e1 λJ H' s W D hD=>?_
  have⟨A,h1,_,h3,_⟩:=R.ob;exact ZN his (R.sr.rel.same s) (by rw[hj];show(σ[ℓ]?).join=_;rw[R.self];rfl) (h1.same s) (λa ha=>(h3 a ha).1) hl hD W q λH2 xs s2 hx r=>k _ _ _ (R.Yq h0 (s.free hD) (s.trans s2) hx r)
 ·cases q
end
section
variable{X:Cx}{C:AdX}{ℓ:Nat}{e:Expr}{pos apos cpos p0 p1 q0 q1:Pos}{apos' cpos':Pos}{x f h:Str}
def ziD(x y:Str)(g:OPx):OFx:=λρ fs=>match fld y fs,g ρ fs with
 |some (.ow ds),some (.int n)=>if 0<=n/\n<ds.length/\ds.length<=16777216 then (ds[n.toNat]?).bind λd=>match fld x (zP y (.ow (ds.eraseIdx n.toNat)) fs) with
  |some (.ow es)=>if es.length<16777216 then some (.nx ρ (zP x (.ow (es++[d])) (zP y (.ow (ds.eraseIdx n.toNat)) fs))) else none
  |_=>none else none
 |_,_=>none
def zlz{g:OPx}(cl:Cls X.K C)(na:zI X.K C f)(nh:zI X.K C h)(he:GE X C ℓ e g)(hfh:¬f=h:=by decide)(hN:X.N[ℓ]?=some x:=by rfl)(hv:Vis X.env.scope x:=by trivial)(hd:NDx x:=by decide)(hcd:NCx x:=by decide)(hb:ABx X (.Name x p0) f:=by rfl)(hb':ABx X (.Name x q0) h:=by rfl)(hbase:ABx X (.Attribute (.Name x p0) f p1) "append":=by rfl)(hbase':ABx X (.Attribute (.Name x q0) h q1) "pop":=by rfl)(hfew':FWx X cpos' [e]:=by rfl)(hline':(apos'.endLine==cpos'.line)=true:=by rfl)(hs':SEx X e []:=by rfl)(hfew:((backTo cpos (starEach [.Call (.Attribute (.Attribute (.Name x q0) h q1) "pop" apos') [e] [] cpos'] X.env)).all (λx=>!x.1)&&(backToKw cpos (keywordEach [] X.env)).all (λx=>x.1.isSome)
   &&decide ([(.Call (.Attribute (.Attribute (.Name x q0) h q1) "pop" apos') [e] [] cpos':Expr)].length+([]:List Keyword).length+(if ([]:List Keyword).isEmpty then 0 else 1)<30))=true:=by rfl)(hline:(apos.endLine==cpos.line)=true:=by rfl)(hs:starEach [.Call (.Attribute (.Attribute (.Name x q0) h q1) "pop" apos') [e] [] cpos'] X.env=(false,eval (.Call (.Attribute (.Attribute (.Name x q0) h q1) "pop" apos') [e] [] cpos') X.env)::starEach [] X.env:=by rfl)(hsw:swapsWith (.Call (.Attribute (.Attribute (.Name x p0) f p1) "append" apos) [.Call (.Attribute (.Attribute (.Name x q0) h q1) "pop" apos') [e] [] cpos'] [] cpos) none pos.line X.env=pure false:=by rfl):OS X C ℓ (.Expr (.Call (.Attribute (.Attribute (.Name x p0) f p1) "append" apos) [.Call (.Attribute (.Attribute (.Name x q0) h q1) "pop" apos') [e] [] cpos'] [] cpos) pos) (ziD f h g):=by
 have⟨t,pe,q⟩:=he;refine⟨_,uO (Vk kQ nG nE uD (vb (yv (i:=ℓ) hN hv hd hcd) hb)
  (yJ (Vk kQ mP mN Vg (vb (yv (i:=ℓ) hN hv hd hcd) hb') (yJ pe xP hs') hbase' hfew' hline' hs') xP hs) hbase hfew hline hs) hsw,λH0 os0 p D σ H os ρ fs r R e k=>?_⟩
 unfold ziD at e;split at e
 ·rename_i ds n ef e1;split at e
  ·rename_i hl;have⟨hl1,hl2,hl3⟩:=hl;have⟨d,e2,e3⟩:=bind_some e;split at e3
   ·rename_i es ef2;split at e3
    ·rename_i hl4;cases e3;have ef2':fld f fs=some (.ow es):=by
      have:∀l:Ob,fld f (zP h (.ow (ds.eraseIdx n.toNat)) l)=fld f l:=by
       intro l;induction l with
       |nil=>
        show(if f=h then _ else none)=none
        rw[qo hfh]
       |cons y l ih=>
        obtain⟨y,c⟩:=y;unfold zP;by_cases z:y=h
        ·rw[qj z];show(if f=y then _ else fld f l)=if f=y then _ else fld f l
         rw[qo (by rw[z];exact hfh),qo (by rw[z];exact hfh)]
        ·rw[qo z];show(if f=y then some c else fld f (zP h _ l))=if f=y then some c else fld f l
         rw[ih]
      rw[<-this fs];exact ef2
     have⟨dx,vs,a,xs,hp,l,ha,ao,rv⟩:=R.lst ef2';have⟨dx2,vs2,a2,xs2,hp2,l2,ha2,ao2,rv2⟩:=R.lst ef;rw[hp] at hp2;cases hp2;have hlen:=rv2.length;refine⟨_,R.self,_,_,_,_,_,rfl,hp,cl,na,l,.inl ⟨rfl,_,SqL.of ha⟩,_,R.self,_,_,_,_,_,rfl,hp,cl,nh,l2,.inl ⟨rfl,_,SqL.of ha2⟩,q σ H os ρ fs _ _ R.w8 e1 λv H' s rd=>?_⟩;cases rd;have⟨u,eu,ru⟩:=rv2.getD e2
     have R1:=(R.same s).zjQ ef (s _ _ hp) l2 (v3 n.toNat (rv2.same (zm s os)));have⟨dx3,vs3,a3,xs3,hp3,l3,ha3,ao3,rv3⟩:=R1.lst ef2
     have pa:p≠a2:=λz=>by
      have w1:=s _ _ hp;rw[z,s _ _ ha2] at w1;cases w1
     rw[zV pa,s _ _ hp] at hp3;cases hp3;rw[l] at l3;cases l3;refine⟨a2,xs2,n,n.toNat,u,rfl,rfl,s _ _ ha2,by omega,by omega,?_,eu,?_⟩
     ·unfold seqIndex?;dsimp only;rw[qo (by omega:¬n<0),qj (by rw[mU];exact⟨qG hl1,qG (by omega)⟩)]
     ·refine⟨a,xs3,u,rfl,rfl,ha3,by rw[rv3.length];exact hl4,k _ _ os (R1.zjQ ef2 (by rw[zV pa];exact s _ _ hp) l (rv3.append (.cons ?_ .nil)))⟩;rw[yL ao2];exact ru.same (zm s os)
    ·cases e3
   ·cases e3
  ·cases e
 ·cases e
end
def spM(K:FRx)(C:AdX)(h:MFx):Sp:=λvs H Q _=>∃p us os ds fs d fs' A,vs=.ref p::us/\FOk K H os (.ref p) (.ob C fs) A/\A.Nodup/\(∀a∈A,a∈os)/\Al H os/\Reps K (offs H os) us ds/\h fs ds=some (d,fs')/\
 ∀v H' os' A',Same (offs H A) H'->Al H' os'->FOk K H' os' (.ref p) (.ob C fs') A'->A'.Nodup->(∀a∈A',a∈os'/\offs H A a=none)->(∀a∈os,a∈A\/a∈os')->(∀a∈os',a∈os\/offs H A a=none)->Rep K (offs H' os') v d->Q v H'
def fnM(n m:Nat)(b:OFx)(fs:Ob)(ds:LPd):Option (PyData×Ob):=if ds.length=m then (match b (.no::(ds.map Sl.pu++List.replicate (n - (m+1)) .no)) fs with
  |some (.rt d fs')=>some (d,fs')
  |some (.nx _ fs')=>some (.none,fs')
  |_=>none) else none
def vL(K:FRx)(C:AdX)(m qual:Str)(st:Stmt):Prop:=∃f fd,Fun K m qual st f fd/\Meth K C m f
def Met(P:Program)(w:World)(K:FRx)(mg:Str->Option Value)(base:Heap)(k:Nat)(C:AdX)(m:Str)(ps:LSr)(h:MFx):Prop:=∃f fd,v7 P w K mg base CX0 k f fd ps (spM K C h)/\Binds K fd ps []/\Meth K C m f
section
variable{P:Program}{w:World}{K:FRx}{mg:Str->Option Value}{base:Heap}{C:AdX}{ℓ:Nat}
def zaL{N:LSr}{H:Hp}{os:LAd}{p:AdX}{us:List V}{ds:LPd}{fs:Ob}{A:LAd}(al:Al H os)(r:Reps K (offs H os) us ds)(o:FOk K H os (.ref p) (.ob C fs) A)(nd:A.Nodup)(hA:∀a∈A,a∈os)(m:Nat)(hm:ds.length=m)(hN:m<N.length):MSt K C 0 (offs H A) (os.filter λa=>a∉A) p H os (start N (.ref p::us)) (.no::(ds.map Sl.pu++List.replicate (N.length - (m+1)) .no)) fs:=by
 have hl:=r.length;have no:∀(i:Nat)(c:Sl),(Sl.no::(ds.map Sl.pu++List.replicate (N.length - (m+1)) .no))[i]?=some c->isM c=true->False:=λi c q m=>by
  cases i with
  |zero=>cases q;cases m
  |succ i=>
   rw[kZ] at q;by_cases hi:i<ds.length
   ·rw[qK (by simpa using hi),qq] at q;have⟨d,_,e2⟩:=map_some q;subst e2;cases m
   ·rw[qz (by simpa using km hi),kz] at q;split at q
    ·cases q;cases m
    ·cases q
 refine⟨⟨⟨λi d q=>?_,λi c q m=>(no i c q m).elim,al,?_⟩,xW H A,λa h=>(ku.mp h).1,λa h=>?_,λa h=>?_,λi c q m=>(no i c q m).elim,λi j c c' _ q _ m=>(no i c q m).elim⟩,rfl,A,o,nd,λa ha=>⟨hA a ha,xN ha⟩,λj c q m=>(no j c q m).elim⟩
 ·cases i with
  |zero=>cases q
  |succ i=>
   rw[kZ] at q;unfold start;by_cases hi:i<ds.length
   ·rw[qK (by simpa using hi),qq] at q;have⟨c,e1,e2⟩:=map_some q;cases e2;have⟨v,e3,e4⟩:=r.getD e1;refine⟨v,?_,e4⟩;rw[qK (by rw[qe,qX,hl];omega),qq,kZ,e3];rfl
   ·rw[qz (by simpa using km hi),kz] at q;split at q<;>cases q
 ·unfold start;simp[hl,hm]
 ·by_cases z:a∈A
  ·exact .inr (xN z)
  ·exact .inl (ku.mpr ⟨h,by simpa using z⟩)
 ·have⟨h1,h2⟩:=ku.mp h;have z:a∉A:=by simpa using h2
  rw[zw z];exact al a h1
def Met.mk{x qual:Str}{st:Stmt}{N ps:LSr}{k m:Nat}{b:OFx}(h:vL K C x qual st)(S:zr N ps (zc st))(hb:∀(kV doc pm:Value)(an:Option Addr)(cdv ct:Value)(us:LVl),us.length=ps.length->bindArgs (W.fnOf x qual (jm st) (yK st) (zc st) .none kV doc pm an cdv ct) ⟨us,[]⟩=pure (ps.zip us))(hm:ps.length=m+1)(hN:m<N.length)(hbody:∀(f:AdX)(cdv:Value)(A:Around)(outer:List Env)(s:ShX)(H:Hp)(E:XK),Room k (A.deeper (envOfC qual (zc st) s.heap.objs.size f cdv))->
   OSs (Ug CX0 P w K mg base N qual (zc st) f cdv A outer s H E).nox C 0 (yK st) b):Met P w K mg base (k+1) C x ps (fnM N.length m b):=by
 have⟨f,fd,F,M⟩:=h;refine⟨f,fd,F.ok S (λvs H Q E q=>?_) (λcdv A outer s H vs Q E hr q=>?_),F.binds hb,M⟩
 ·obtain⟨p,us,os,ds,fs,d,fs',A,rfl,_,_,_,_,r,e,_⟩:=q;unfold fnM at e;split at e
  ·rename_i hl;rw[qX,r.length,hl,hm]
  ·cases e
 ·have⟨t,pp,q'⟩:=hbody f cdv A outer s H E hr;obtain⟨p,us,os,ds,fs,d,fs',A,rfl,o,nd,hA,al,r,e,kk⟩:=q;unfold fnM at e;split at e
  ·rename_i hl;refine⟨t,pp,?_⟩;have R:=zaL (N:=N) al r o nd hA m hl hN;have go:∀v H' os',zhX K C (offs H A) (os.filter λa=>a∉A) p H' os' fs'->Rep K (offs H' os') v d->Q v H':=λv H' os' M rv=>by
    have⟨A',o',nd',hA'⟩:=M.ob;refine kk v H' os' A' M.sm M.al o' nd' hA' (λa ha=>?_) (λa ha=>?_) rv
    ·by_cases z:a∈A
     ·exact .inl z
     ·exact .inr (M.sub a (ku.mpr ⟨ha,by simpa using z⟩))
    ·rcases M.new a ha with z|z
     ·exact .inl (ku.mp z).1
     ·exact .inr z
   split at e
   ·rename_i d' fs'' e1;cases e;exact q' _ _ _ _ _ H os _ _ _ R e1 λv H' os' M rv=>go v H' os' M rv
   ·rename_i ρ' fs'' e1;cases e;exact q' _ _ _ _ _ H os _ _ _ R e1 λσ' H' os' R'=>go _ H' os' R'.end .non
   ·cases e
  ·cases e
end
section
variable{X:Cx}{a:Expr}{p pos tp:Pos}{tes:List Expr}{kk:Nat}{ga:RLx}
def zhd(t:Bool)(hg:Gl X "enumerate")(hm:X.mg "enumerate"=none)(ha:FAB X [a] ga)(hs:starEach [a] X.env=[(false,eval a X.env)]:=by rfl):FIB X (.Tuple tes kk tp) (.Call (.Name "enumerate" p) [a] [] pos) (zfo t ga):=by
 have⟨ta,pa,qa⟩:=ha;refine⟨_,zjJ t hg hm pa hs,λσ H os ρ ds R rel e k=>?_⟩;unfold zfo at e;split at e
 ·rename_i x e1;split at e
  ·rename_i k1 xs e2;split at e
   ·rename_i hc;cases e;subst hc;refine qa σ H os ρ _ _ rel e1 λvs H' s r=>?_
    obtain⟨v,rfl,r1⟩:=r.one;obtain⟨a1,us,rfl,h1,q1⟩:=uH r1 e2;exact⟨a1,rfl,⟨_,h1⟩,k _ H' s (zeN h1 q1)⟩
   ·cases e
  ·cases e
 ·cases e
end
def YJ(T:Nat)(F:LNt)(fi:OLx)(b:PyData->Ro->Option Ro)(fc:Ro->Option Bool)(fe:RPx):OLx:=λρ fs=>
 (fi ρ fs).bind λds=>if ds.length<=16777216 then wz (λd=>(b d (compEnv T F ρ)).bind λρ1=>(fc ρ1).bind λok=>if ok then (fe ρ1).map some else some none) ds else none
section
variable{X:Cx}{C:AdX}{ℓ:Nat}{elt tg iter c:Expr}{scope:Scope}{pos pos' spos:Pos}{Ts:LSr}{F:LNt}{is:LNt}{fi:OLx}{b:PyData->Ro->Option Ro}{fc:Ro->Option Bool}{fe:RPx}{x:Str}
def zgF(i:Nat)(hN:X.N.Nodup)(hc:X.calm=true)(hi:GIB X C ℓ tg iter fi)(S:yc X scope)(hF:∀j∈F,∃x,X.N[j]?=some x/\scope.names.lookup x=some .free)(hg:∀cl C ex s H,FG (z9 X (Ts++F.map λj=>X.N.getD j "") scope cl C ex s H) tg is b)(ht:∀cl C ex s H,FT (z9 X (Ts++F.map λj=>X.N.getD j "") scope cl C ex s H) c fc)(he:∀cl C ex s H,FE (z9 X (Ts++F.map λj=>X.N.getD j "") scope cl C ex s H) elt fe)(his:∀i∈is,i<Ts.length:=by decide)(h0:i≠ℓ:=by decide)(hi':X.N[i]?=some x:=by rfl)(hx:X.env.scope.names.lookup x=some .local:=by rfl)(hsw:swapsWith (.ListComp elt [⟨tg,iter,[c],0⟩] scope pos) (some (.Name x pos')) spos.line X.env=pure true:=by rfl)(hs:FSx X iter:=by exact λ_=>rfl):OS X C ℓ (.Assign [.Name x pos'] (.ListComp elt [⟨tg,iter,[c],0⟩] scope pos) spos) (W7 i (YJ Ts.length F fi b fc fe)):=by
 have⟨wi,pi,qi⟩:=hi;refine⟨_,VC (Ts:=Ts) (F:=F) (g:=gF X.K is b) (tc:=tFT X.K fc) (te:=tF X.K fe) hN hi' hx hc pi S hF hg (λcl C ex s H=>(he cl C ex s H).pe) (λcl C ex s H=>(ht cl C ex s H).pt) hsw hs,λH0 os0 p D σ H os ρ fs r R q k=>?_⟩;have⟨ds,e1,q⟩:=bind_some q;cases q;have⟨es,e1,q⟩:=bind_some e1;split at q
 ·rename_i hl;refine qi σ H os ρ fs es _ R.w8 e1 λJ H' s W D hD=>?_
  exact JA his (R.sr.rel.same s) hl hD W q λH2 xs s2 hx r=>k _ _ _ (R.Yq h0 (s.free hD) (s.trans s2) hx r)
 ·cases q
end
section
variable{K:FRx}{C C2:AdX}{ℓ:Nat}{H0 H H':Hp}{os0 os os':LAd}{p q:AdX}{σ:St}{ρ:Ro}{fs:Ob}
structure Left(H:Hp)(os B:LAd)(H':Hp)(os':LAd):Prop where
 sm:Same (offs H B) H'
 al:Al H' os'
 sub:∀a∈os,a∈B\/a∈os'
 new:∀a∈os',a∈os\/offs H B a=none
def Left.data{B:LAd}(h:Left H os B H' os')(hB:∀a∈B,a∈os):Same (offs H os) (offs H' os'):=λb o z=>by
 by_cases hb:b∈os
 ·rw[xN hb] at z;cases z
 ·rw[zw hb] at z;have nB:b∉B:=λw=>hb (hB b w)
  have e:offs H B b=some o:=by rw[zw nB];exact z
  rw[zw]
  ·exact h.sm b o e
  ·intro w;rcases h.new b w with u|u
   ·exact hb u
   ·rw[e] at u;cases u
def Left.cell{B:LAd}(h:Left H os B H' os'){a:AdX}{o:HO}(hB:a∉B)(e:H a=some o):H' a=some o:=h.sm a o (by rw[zw hB];exact e)
def SRo.left(h:SRo K H0 os0 H os σ ρ){B:LAd}(l:Left H os B H' os')(hB:∀a∈B,a∈os/\H0 a=none)(hs:∀(j:Nat)(c:Sl),ρ[j]?=some c->isM c=true->∀a∈B,σ[j]?≠some (some (.ref a))):SRo K H0 os0 H' os' σ ρ:=by
 have sd:=l.data λa ha=>(hB a ha).1
 refine⟨⟨λi d q=>?_,λi c q m=>?_,l.al,h.rel.len⟩,λb o z=>?_,λa ha=>?_,λa ha=>?_,h.al0,h.own,h.ap⟩
 ·have⟨v,h1,h2⟩:=h.rel.pu i d q;exact⟨v,h1,h2.same sd⟩
 ·have⟨a,o,h1,h2,h3,h4⟩:=h.rel.mu i c q m;have nB:a∉B:=λw=>hs i c q m a w h1
  refine⟨a,o,h1,?_,l.cell nB h3,h4.same sd⟩;rcases l.sub a h2 with w|w
  ·exact absurd w nB
  ·exact w
 ·refine l.cell (λw=>?_) (h.sm b o z);rw[(hB b w).2] at z;cases z
 ·rcases l.sub a (h.sub a ha) with w|w
  ·have⟨o,e⟩:=h.al0 a ha;rw[(hB a w).2] at e;cases e
  ·exact w
 ·rcases l.new a ha with w|w
  ·exact h.new a w
  ·by_cases z:a∈B
   ·exact .inr (hB a z).2
   ·rw[zw z] at w;exact .inr (h.sm.free w)
theorem yZ.nest{x:Str}{gs gs':Ob}{B B':LAd}(sd:Same (offs H os) (offs H' os'))(hc:∀a o,a∉B->H a=some o->H' a=some o)(o':FOk K H' os' (.ref q) (.ob C2 gs') B')(ndB':B'.Nodup):∀{vs:List (Str×V)} {fs:Ob} {A:LAd},yZ K H os vs fs A->A.Nodup->(∀a∈A,a∉B->a∉B')->fld x fs=some (.ob C2 gs)->vs.lookup x=some (.ref q)->(∀{v:V} {D:LAd},FOk K H os v (.ob C2 gs) D->v=.ref q->D=B)->
   ∃A',yZ K H' os' vs (zP x (.ob C2 gs') fs) A'/\A'.Nodup/\∀a∈A',(a∈A/\a∉B)\/a∈B'
 |_,_,_,.nil,_,_,e,_,_=>by cases e
 |_,_,_,@yZ.cons _ _ _ y u d vs fs A0 B0 h r,nd,dj,e,l,un=>by
  have kp:∀{A:LAd},(∀a∈A,a∉B)->(∀a∈A,∃o,H a=some o)->∀a∈A,H' a=H a:=λnB has a ha=>by
   have⟨o,w⟩:=has a ha;rw[w];exact hc a o (nB a ha) w
  unfold fld at e;unfold zP;by_cases z:x=y
  ·rw[qj z] at e;rw[qj z.symm];cases e;rw[kq,show(x==y)=true from gJ.mpr z] at l;cases l;have eB:A0=B:=un h rfl;subst eB;have nB:∀a∈B0,a∉A0:=λa ha w=>zg7 nd a w ha
   refine⟨B'++B0,.cons o' (r.keep sd (kp nB r.has)),zby ndB' (zgn nd) λa ha w=>dj a (qr.mpr (.inr w)) (nB a w) ha,λa ha=>?_⟩;rcases qr.mp ha with w|w
   ·exact .inr w
   ·exact .inl ⟨qr.mpr (.inr w),nB a w⟩
  ·rw[qo z] at e;rw[qo (gG z)];rw[kq,show(x==y)=false from kW.mpr z] at l;have l:vs.lookup x=some (.ref q):=l;have⟨v,D,l',o2,hD⟩:=r.look e
   rw[l] at l';cases l';have eB:D=B:=un o2 rfl;subst eB;have nB:∀a∈A0,a∉D:=λa ha w=>zg7 nd a ha (hD a w)
   obtain⟨A',h1,h2,h3⟩:=yZ.nest sd hc o' ndB' r (zgn nd) (λa ha=>dj a (qr.mpr (.inr ha))) e l un;refine⟨A0++A',.cons (h.keep sd (kp nB h.has)) h1,zby (zmo nd) h2 λa ha w=>?_,λa ha=>?_⟩
   ·rcases h3 a w with u|u
    ·exact zg7 nd a ha u.1
    ·exact dj a (qr.mpr (.inl ha)) (nB a ha) u
   ·rcases qr.mp ha with w|w
    ·exact .inl ⟨qr.mpr (.inl w),nB a w⟩
    ·rcases h3 a w with u|u
     ·exact .inl ⟨qr.mpr (.inr u.1),u.2⟩
     ·exact .inr u
mutual
theorem FOk.uniq:∀{v:V} {c:Fs} {A B:LAd},FOk K H os v c A->FOk K H os v c B->A=B
 |_,_,_,_,.pu _,.pu _=>rfl
 |_,_,_,_,.ow _ _,.ow _ _=>rfl
 |_,_,_,_,.ob h r,.ob h' r'=>by
  rw[h] at h';cases h';exact qR _ (yZ.uniq r r')
theorem yZ.uniq:∀{vs:List (Str×V)} {fs:Ob} {A B:LAd},yZ K H os vs fs A->yZ K H os vs fs B->A=B
 |_,_,_,_,.nil,.nil=>rfl
 |_,_,_,_,.cons h r,.cons h' r'=>by rw[FOk.uniq h h',yZ.uniq r r']
end
def MSt.nest(h:MSt K C ℓ H0 os0 p H os σ ρ fs){x:Str}{gs gs':Ob}{B B':LAd}{dx:AdX}{vs:List (Str×V)}(e:fld x fs=some (.ob C2 gs))(hp:H p=some (.ins C dx vs))(l:vs.lookup x=some (.ref q))(o:FOk K H os (.ref q) (.ob C2 gs) B)(L:Left H os B H' os')(o':FOk K H' os' (.ref q) (.ob C2 gs') B')(nd':B'.Nodup)(hB':∀a∈B',a∈os'/\offs H B a=none):MSt K C ℓ H0 os0 p H' os' σ ρ (zP x (.ob C2 gs') fs):=by
 have⟨A,h1,h2,h3,h4⟩:=h.ob;cases h1 with
 | @ob _ _ _ _ _ A hp' r=>
  rw[hp] at hp';cases hp';have⟨pA,nd⟩:=ke.mp h2;have⟨v,B0,l',o0,hB0⟩:=r.look e;rw[l] at l';cases l';have eB:=o0.uniq o;subst eB;have BA:∀a∈B0,a∈p::A:=λa ha=>.tail _ (hB0 a ha)
  have pB:p∉B0:=λw=>pA (hB0 p w)
  have sd:=L.data λa ha=>(h3 a (BA a ha)).1
  have dj:∀a∈p::A,a∉B0->a∉B':=λa ha nB w=>by
   have:=(hB' a w).2;rw[zw nB] at this;rcases qx.mp ha with z|z
   ·rw[z,hp] at this;cases this
   ·have⟨o,e⟩:=r.has a z;rw[e] at this;cases this
  obtain⟨A',k1,k2,k3⟩:=yZ.nest sd (λa o nB e=>L.cell nB e) o' nd' r nd (λa ha=>dj a (.tail _ ha)) e l λ{v D} w z=>by
   subst z;exact w.uniq o0
  have pA':p∉A':=λw=>by
   rcases k3 p w with u|u
   ·exact pA u.1
   ·exact dj p (.head _) pB u
  have nB':∀a∈B',H0 a=none:=λa ha=>by
   have:=(hB' a ha).2;by_cases z:a∈B0
   ·exact(h3 a (BA a z)).2
   ·rw[zw z] at this;exact h.sr.sm.free this
  have ins:∀a∈p::A,a∉B0->a∈os':=λa ha nB=>by
   rcases L.sub a (h3 a ha).1 with w|w
   ·exact absurd w nB
   ·exact w
  refine⟨h.sr.left L (λa ha=>h3 a (BA a ha)) λj c q m a ha=>h4 j c q m a (BA a ha),h.self,p::A',.ob (L.cell pB hp) k1,ke.mpr ⟨pA',k2⟩,λa ha=>?_,λj c q m a ha=>?_⟩
  ·rcases qx.mp ha with z|z
   ·rw[z];exact⟨ins p (.head _) pB,(h3 p (.head _)).2⟩
   ·rcases k3 a z with u|u
    ·exact⟨ins a (.tail _ u.1) u.2,(h3 a (.tail _ u.1)).2⟩
    ·exact⟨(hB' a u).1,nB' a u⟩
  ·rcases qx.mp ha with z|z
   ·rw[z];exact h4 j c q m p (.head _)
   ·rcases k3 a z with u|u
    ·exact h4 j c q m a (.tail _ u.1)
    ·intro w;have⟨b,o,w1,w2,w3,_⟩:=h.sr.rel.mu j c q m;rw[w] at w1;cases w1;by_cases y:a∈B0
     ·exact h4 j c q m a (BA a y) w
     ·have:=(hB' a u).2;rw[zw y,w3] at this;cases this
end
theorem yZ.zf1{K:FRx}{H:Hp}{os:LAd}{x:Str}:∀{vs:List (Str×V)} {fs:Ob} {A:LAd} {c:Fs},yZ K H os vs fs A->A.Nodup->fld x fs=some c->∃v B,vs.lookup x=some v/\FOk K H os v c B/\B.Nodup/\∀a∈B,a∈A
 |_,_,_,_,.nil,_,q=>by cases q
 |_,_,_,c,@yZ.cons _ _ _ y v c' vs fs A B h r,nd,q=>by
  unfold fld at q;by_cases z:x=y
  ·rw[qj z] at q;cases q;refine⟨v,A,?_,h,zmo nd,λa ha=>qr.mpr (.inl ha)⟩;rw[kq,show(x==y)=true from gJ.mpr z]
  ·rw[qo z] at q;obtain⟨v',B',h1,h2,h3,h4⟩:=yZ.zf1 r (zgn nd) q;refine⟨v',B',?_,h2,h3,λa ha=>qr.mpr (.inr (h4 a ha))⟩;rw[kq,show(x==y)=false from kW.mpr z];exact h1
def GA(X:Cx)(C:AdX)(ℓ:Nat)(es:List Expr)(f:OLx):Prop:=∃t:TA,PA X es t/\∀(σ:St)(H:Hp)(os:LAd)(ρ:Ro)(fs:Ob)(ds:LPd)(Q:List V->Hp->Prop),vC X.K C ℓ H os σ ρ fs->f ρ fs=some ds->
  (∀vs H',Same H H'->Reps X.K (offs H' os) vs ds->Q vs H')->t σ H Q
def GM(X:Cx)(C:AdX)(ℓ:Nat)(e:Expr)(f:Ro->Ob->Option (PyData×Ob)):Prop:=∃t:TE,PE X e t/\∀(H0:Hp)(os0:LAd)(p:AdX)(σ:St)(H:Hp)(os:LAd)(ρ:Ro)(fs:Ob)(d:PdX)(fs':Ob)(Q:VK),MSt X.K C ℓ H0 os0 p H os σ ρ fs->f ρ fs=some (d,fs')->
  (∀v H' os',MSt X.K C ℓ H0 os0 p H' os' σ ρ fs'->Rep X.K (offs H' os') v d->Q v H')->t σ H Q
section
variable{X:Cx}{C C2:AdX}{ℓ:Nat}{e:Expr}{es:List Expr}{f:OPx}{g:OLx}{pos apos p0 p1:Pos}{x y m:Str}{k k':Nat}{ps:LSr}
def Jv:GA X C ℓ [] gA0:=⟨_,xP,λ_ H _ _ _ _ _ _ q k=>by cases q;exact k [] H (Same.refl H) .nil⟩
def jl(ha:GE X C ℓ e f)(hr:GA X C ℓ es g)(hs:SEx X e es:=by rfl):GA X C ℓ (e::es) (gAC f g):=by
 have⟨ta,pa,qa⟩:=ha;have⟨tb,pb,qb⟩:=hr;refine⟨_,yJ pa pb hs,λσ H os ρ fs ds Q R q k=>?_⟩;have⟨d,e1,q⟩:=bind_some q;have⟨r,e2,e3⟩:=map_some q;subst e3;exact qa σ H os ρ fs d _ R e1 λx H1 s1 r1=>qb σ H1 os ρ fs r _ (R.same s1) e2 λxs H2 s2 r2=>k _ H2 (s1.trans s2) (.cons (r1.same (zm s2 os)) r2)
def gmn(C2:AdX)(y m:Str)(h:MFx)(g:OLx):Ro->Ob->Option (PyData×Ob):=λρ fs=>match fld y fs with
 |some (.ob C' gs)=>if C'=C2/\(fld m gs).isNone=true then (g ρ fs).bind λds=>(h gs ds).map λr=>(r.1,zP y (.ob C2 r.2) fs) else none
 |_=>none
def zjh{pl:Sem Bool}{h:MFx}(cl:Cls X.K C)(na:zI X.K C y)(cl2:Cls X.K C2)(M:Met X.prog X.w X.K X.mg X.base k C2 m ps h)(hr:Room k' X.A)(ha:GA X C ℓ (e::es) g)(hk:k<=k':=by decide)(hN:X.N[ℓ]?=some x:=by rfl)(hv:Vis X.env.scope x:=by trivial)(hd:NDx x:=by decide)(hcd:NCx x:=by decide)(hb:ABx X (.Name x p0) y:=by rfl)(hst:SEx X e es:=by rfl)(hpl:PLx X pos es:=by rfl)(ht:eval (.Call (.Attribute (.Attribute (.Name x p0) y p1) m apos) (e::es) [] pos) X.env=(do
   let ov <-eval (.Attribute (.Name x p0) y p1) X.env
   standAt apos.atName
   let (f,first) <-holding [ov] (getMethod ov m pl)
   callWith pos f first (backTo pos (starEach (e::es) X.env)) (backToKw pos (keywordEach [] X.env))):=by rfl):GM X C ℓ (.Call (.Attribute (.Attribute (.Name x p0) y p1) m apos) (e::es) [] pos) (gmn C2 y m h g):=by
 have⟨fa,fd,F,B,mm⟩:=M;have⟨t,pa,qa⟩:=ha;refine⟨_,zbp (pl:=pl) (vb (yv (i:=ℓ) hN hv hd hcd) hb) cl2 mm F (hr.mono hk) B .nil Jn pa hst hpl ht,λH0 os0 p σ H os ρ fs d fs' Q R e kk=>?_⟩;unfold gmn at e;split at e
 ·rename_i C' gs ef;split at e
  ·rename_i hc;obtain⟨rfl,hm⟩:=hc;have⟨ds,e1,e2⟩:=bind_some e;have⟨r,e3,e4⟩:=map_some e2;cases e4;have⟨A,h1,h2,h3,h4⟩:=R.ob;cases h1 with
   |ob hp rr=>
    obtain⟨v,D,l,o,ndD,hD⟩:=rr.zf1 (ke.mp h2).2 ef;cases o with
    | @ob q _ dx2 vs2 _ D' hq r2=>
     refine⟨_,R.self,_,_,_,_,_,rfl,hp,cl,na,l,q,_,_,rfl,hq,r2.nolook (gM.mp hm),qa σ H os ρ fs ds _ R.w8 e1 λus H1 s1 ru=>?_⟩;rw[kj];have R1:=R.same s1;have o1:FOk X.K H1 os (.ref q) (.ob C' gs) (q::D'):=FOk.same s1 (.ob hq r2)
     refine⟨q,us,os,ds,gs,r.1,r.2,q::D',rfl,o1,ndD,λa ha=>(h3 a (.tail _ (hD a ha))).1,R1.sr.rel.al,ru,e3,λv H' os' B' sm al o' nd' hB' sub new rv=>?_⟩;exact kk v H' os' (R1.nest ef (s1 _ _ hp) l o1 ⟨sm,al,sub,new⟩ o' nd' hB') rv
  ·cases e
 ·cases e
end
section
variable{X:Cx}{C:AdX}{ℓ:Nat}{e:Expr}{pos:Pos}{f:Ro->Ob->Option (PyData×Ob)}
def oex(f:Ro->Ob->Option (PyData×Ob)):OFx:=λρ fs=>(f ρ fs).bind λr=>some (.nx ρ r.2)
def zm9(h:GM X C ℓ e f)(hs:swapsWith e none pos.line X.env=pure false:=by rfl):OS X C ℓ (.Expr e pos) (oex f):=by
 have⟨t,p,q⟩:=h;refine⟨_,uO p hs,λH0 os0 p D σ H os ρ fs r R e k=>?_⟩;have⟨d,e1,e2⟩:=bind_some e;cases e2;exact q H0 os0 p σ H os ρ fs d.1 d.2 _ R e1 λv H' os' R' _=>k _ _ _ R'
def osm(i:Nat)(f:Ro->Ob->Option (PyData×Ob)):OFx:=λρ fs=>(f ρ fs).bind λr=>some (.nx (ρ.set i (.pu r.1)) r.2)
def zck(i:Nat){x:Str}{pos':Pos}(hN:X.N.Nodup)(he:GM X C ℓ e f)(h0:i≠ℓ:=by decide)(hi:X.N[i]?=some x:=by rfl)(hx:Loc X.env.scope x:=by trivial)(hs:swapsWith e (some (.Name x pos')) pos.line X.env=pure false:=by rfl)(hf:FNx X x:=by trivial):OS X C ℓ (.Assign [.Name x pos'] e pos) (osm i f):=by
 have⟨t,p,q⟩:=he;refine⟨_,wW hN hi hx p hs hf,λH0 os0 p D σ H os ρ fs r R e k=>?_⟩;have⟨d,e1,e2⟩:=bind_some e;cases e2;exact q H0 os0 p σ H os ρ fs d.1 d.2 _ R e1 λv H' os' R' rv=>k _ _ _ (R'.set h0 rv)
end
section
variable{X:Cx}{C C2:AdX}{ℓ:Nat}{e:Expr}{es:List Expr}{g:OLx}{pos apos p0 p1:Pos}{x y m:Str}{k k':Nat}{ps:LSr}
def zhH{pl:Sem Bool}{h:MFx}(cl:Cls X.K C)(na:zI X.K C y)(cl2:Cls X.K C2)(M:Met X.prog X.w X.K X.mg X.base k C2 m ps h)(hr:Room k' X.A)(hk:k<=k':=by decide)(hN:X.N[ℓ]?=some x:=by rfl)(hv:Vis X.env.scope x:=by trivial)(hd:NDx x:=by decide)(hcd:NCx x:=by decide)(hb:ABx X (.Name x p0) y:=by rfl)(ht:eval (.Call (.Attribute (.Attribute (.Name x p0) y p1) m apos) [] [] pos) X.env=(do
   let ov <-eval (.Attribute (.Name x p0) y p1) X.env
   standAt apos.atName
   let (f,first) <-holding [ov] (getMethod ov m pl)
   callWith pos f first (backTo pos (starEach [] X.env)) (backToKw pos (keywordEach [] X.env))):=by rfl):GM X C ℓ (.Call (.Attribute (.Attribute (.Name x p0) y p1) m apos) [] [] pos) (gmn C2 y m h gA0):=by
 have⟨fa,fd,F,B,mm⟩:=M;refine⟨_,zdz (pl:=pl) (vb (yv (i:=ℓ) hN hv hd hcd) hb) cl2 mm F (hr.mono hk) B .nil Jn ht,λH0 os0 p σ H os ρ fs d fs' Q R e kk=>?_⟩;unfold gmn at e;split at e
 ·rename_i C' gs ef;split at e
  ·rename_i hc;obtain⟨rfl,hm⟩:=hc;have⟨ds,e1,e2⟩:=bind_some e;cases e1;have⟨r,e3,e4⟩:=map_some e2;cases e4;have⟨A,h1,h2,h3,h4⟩:=R.ob;cases h1 with
   |ob hp rr=>
    obtain⟨v,D,l,o,ndD,hD⟩:=rr.zf1 (ke.mp h2).2 ef;cases o with
    | @ob q _ dx2 vs2 _ D' hq r2=>
     refine⟨_,R.self,_,_,_,_,_,rfl,hp,cl,na,l,q,_,_,rfl,hq,r2.nolook (gM.mp hm),?_⟩;have o1:FOk X.K H os (.ref q) (.ob C' gs) (q::D'):=.ob hq r2;refine⟨q,[],os,[],gs,r.1,r.2,q::D',rfl,o1,ndD,λa ha=>(h3 a (.tail _ (hD a ha))).1,R.sr.rel.al,.nil,e3,λv H' os' B' sm al o' nd' hB' sub new rv=>?_⟩;exact kk v H' os' (R.nest ef hp l o1 ⟨sm,al,sub,new⟩ o' nd' hB') rv
  ·cases e
 ·cases e
def MSt.own{K:FRx}{H0 H H':Hp}{os0 os os':LAd}{p:AdX}{σ:St}{ρ:Ro}{fs fs':Ob}{B B':LAd}(h:MSt K C ℓ H0 os0 p H os σ ρ fs)(o:FOk K H os (.ref p) (.ob C fs) B)(L:Left H os B H' os')(o':FOk K H' os' (.ref p) (.ob C fs') B')(nd':B'.Nodup)(hB':∀a∈B',a∈os'/\offs H B a=none):MSt K C ℓ H0 os0 p H' os' σ ρ fs':=by
 have⟨A,h1,h2,h3,h4⟩:=h.ob;have eB:=h1.uniq o;subst eB;refine⟨h.sr.left L h3 h4,h.self,B',o',nd',λa ha=>⟨(hB' a ha).1,?_⟩,λj c q m a ha w=>?_⟩
 ·have:=(hB' a ha).2;by_cases z:a∈A
  ·exact(h3 a z).2
  ·rw[zw z] at this;exact h.sr.sm.free this
 ·have⟨b,o,w1,w2,w3,_⟩:=h.sr.rel.mu j c q m;rw[w] at w1;cases w1;by_cases y:a∈A
  ·exact h4 j c q m a y w
  ·have:=(hB' a ha).2;rw[zw y,w3] at this;cases this
def gms(m:Str)(h:MFx)(g:OLx):Ro->Ob->Option (PyData×Ob):=λρ fs=>if (fld m fs).isNone=true then (g ρ fs).bind λds=>h fs ds else none
def zfw{pl:Sem Bool}{h:MFx}(cl:Cls X.K C)(M:Met X.prog X.w X.K X.mg X.base k C m ps h)(hr:Room k' X.A)(ha:GA X C ℓ (e::es) g)(hk:k<=k':=by decide)(hN:X.N[ℓ]?=some x:=by rfl)(hv:Vis X.env.scope x:=by trivial)(hd:NDx x:=by decide)(hcd:NCx x:=by decide)(hst:SEx X e es:=by rfl)(hpl:PLx X pos es:=by rfl)(ht:eval (.Call (.Attribute (.Name x p0) m apos) (e::es) [] pos) X.env=(do
   let ov <-eval (.Name x p0) X.env
   standAt apos.atName
   let (f,first) <-holding [ov] (getMethod ov m pl)
   callWith pos f first (backTo pos (starEach (e::es) X.env)) (backToKw pos (keywordEach [] X.env))):=by rfl):GM X C ℓ (.Call (.Attribute (.Name x p0) m apos) (e::es) [] pos) (gms m h g):=by
 have⟨fa,fd,F,B,mm⟩:=M;have⟨t,pa,qa⟩:=ha;refine⟨_,zbp (pl:=pl) (yv (i:=ℓ) hN hv hd hcd) cl mm F (hr.mono hk) B .nil Jn pa hst hpl ht,λH0 os0 p σ H os ρ fs d fs' Q R e kk=>?_⟩;unfold gms at e;split at e
 ·rename_i hm;have⟨ds,e1,e2⟩:=bind_some e;have⟨A,h1,h2,h3,h4⟩:=R.ob;cases h1 with
  |ob hp rr=>
   refine⟨_,R.self,p,_,_,rfl,hp,rr.nolook (gM.mp hm),qa σ H os ρ fs ds _ R.w8 e1 λus H1 s1 ru=>?_⟩;rw[kj];have R1:=R.same s1;have o1:=FOk.same s1 (FOk.ob hp rr)
   refine⟨p,us,os,ds,fs,d,fs',_,rfl,o1,h2,λa ha=>(h3 a ha).1,R1.sr.rel.al,ru,e2,λv H' os' B' sm al o' nd' hB' sub new rv=>?_⟩;exact kk v H' os' (R1.own o1 ⟨sm,al,sub,new⟩ o' nd' hB') rv
 ·cases e
end
def GTM(X:Cx)(C:AdX)(ℓ:Nat)(e:Expr)(f:Ro->Ob->Option (Bool×Ob)):Prop:=∃t:TT,PT X e t/\∀(H0:Hp)(os0:LAd)(p:AdX)(σ:St)(H:Hp)(os:LAd)(ρ:Ro)(fs:Ob)(b:Bool)(fs':Ob)(Q:Bool->Hp->Prop),MSt X.K C ℓ H0 os0 p H os σ ρ fs->f ρ fs=some (b,fs')->
  (∀H' os',MSt X.K C ℓ H0 os0 p H' os' σ ρ fs'->Q b H')->t σ H Q
def GWM(X:Cx)(C:AdX)(ℓ:Nat)(e:Expr)(f:Ro->Ob->Option (Bool×Ob)):Prop:=∃t:TT,PW X e t/\∀(H0:Hp)(os0:LAd)(p:AdX)(σ:St)(H:Hp)(os:LAd)(ρ:Ro)(fs:Ob)(b:Bool)(fs':Ob)(Q:Bool->Hp->Prop),MSt X.K C ℓ H0 os0 p H os σ ρ fs->f ρ fs=some (b,fs')->
  (∀H' os',MSt X.K C ℓ H0 os0 p H' os' σ ρ fs'->Q b H')->t σ H Q
section
variable{X:Cx}{C:AdX}{ℓ:Nat}{e a b:Expr}{pos:Pos}{rest:List Expr}
def gtF(f:Ro->Ob->Option Bool):Ro->Ob->Option (Bool×Ob):=λρ fs=>(f ρ fs).map λc=>(c,fs)
def GT.gtm{f:Ro->Ob->Option Bool}(h:GT X C ℓ e f):GTM X C ℓ e (gtF f):=by
 have⟨t,p,q⟩:=h;refine⟨t,p,λH0 os0 p σ H os ρ fs b fs' Q R e k=>?_⟩;have⟨c,e1,e2⟩:=map_some e;cases e2;exact q σ H os ρ fs _ Q R.w8 e1 λH' s=>k H' os (R.same s)
def gvF(f:Ro->Ob->Option (PyData×Ob)):Ro->Ob->Option (Bool×Ob):=λρ fs=>match f ρ fs with |some (.bool c,fs')=>some (c,fs')|_=>none
def zco{f:Ro->Ob->Option (PyData×Ob)}(h:GM X C ℓ e f)(he:∀whole,isTrue e X.env whole=(do let v <-whole;standAt e.pos;holding [v] (truthy v)):=by intro _;rfl):GTM X C ℓ e (gvF f):=by
 have⟨t,p,q⟩:=h;refine⟨_,zii p he,λH0 os0 p σ H os ρ fs b fs' Q R e k=>?_⟩;unfold gvF at e;split at e
 ·rename_i c fs2 e1;cases e;refine q H0 os0 p σ H os ρ fs _ _ _ R e1 λv H' os' R' rv=>?_
  cases rv;exact⟨_,rfl,k H' os' R'⟩
 ·cases e
def gnF(f:Ro->Ob->Option (Bool×Ob)):Ro->Ob->Option (Bool×Ob):=λρ fs=>(f ρ fs).map λr=>(!r.1,r.2)
def zjx{f:Ro->Ob->Option (Bool×Ob)}(h:GTM X C ℓ a f):GTM X C ℓ (.UnaryOp .Not a pos) (gnF f):=by
 have⟨t,p,q⟩:=h;refine⟨_,zhw p,λH0 os0 p σ H os ρ fs b fs' Q R e k=>?_⟩;have⟨r,e1,e2⟩:=map_some e;cases e2;exact q H0 os0 p σ H os ρ fs _ _ _ R e1 k
def GWM.gtm{f:Ro->Ob->Option (Bool×Ob)}(h:GWM X C ℓ e f):GTM X C ℓ e f:=by
 have⟨t,p,q⟩:=h;exact⟨t,p.pt,q⟩
def ziq{f:Ro->Ob->Option (Bool×Ob)}(h:GTM X C ℓ a f):GWM X C ℓ (.BoolOp .And [a] pos) f:=by
 have⟨t,p,q⟩:=h;exact⟨t,pw_and1 p,q⟩
def gaF(f g:Ro->Ob->Option (Bool×Ob)):Ro->Ob->Option (Bool×Ob):=λρ fs=>(f ρ fs).bind λr=>if r.1 then g ρ r.2 else some (false,r.2)
def zkk{f g:Ro->Ob->Option (Bool×Ob)}(ha:GTM X C ℓ a f)(hb:GWM X C ℓ (.BoolOp .And (b::rest) pos) g):GWM X C ℓ (.BoolOp .And (a::b::rest) pos) (gaF f g):=by
 have⟨ta,pa,qa⟩:=ha;have⟨tb,pb,qb⟩:=hb;refine⟨_,pw_and pa pb,λH0 os0 p σ H os ρ fs c fs' Q R q k=>?_⟩;have⟨⟨b,fs1⟩,e1,e2⟩:=bind_some q;refine qa H0 os0 p σ H os ρ fs b fs1 _ R e1 λH' os' R'=>?_
 cases b with
 |true=>rw[qj rfl] at e2 ⊢;exact qb H0 os0 p σ H' os' ρ fs1 c fs' Q R' e2 k
 |false=>rw[qo qL] at e2 ⊢;cases e2;exact k H' os' R'
def zah(c:Ro->Ob->Option (Bool×Ob))(f g:OFx):OFx:=λρ fs=>(c ρ fs).bind λr=>if r.1 then f ρ r.2 else g ρ r.2
def zhU{c:Expr}{a b:List Stmt}{f g:OFx}{fc:Ro->Ob->Option (Bool×Ob)}(hc:GTM X C ℓ c fc)(ha:OSs X C ℓ a f)(hb:OSs X C ℓ b g):OS X C ℓ (.If c a b pos) (zah fc f g):=by
 have⟨tc,pc,qc⟩:=hc;have⟨ta,pa,qa⟩:=ha;have⟨tb,pb,qb⟩:=hb;refine⟨_,zhS pc pa pb,λH0 os0 p D σ H os ρ fs r R e k=>?_⟩;have⟨⟨b,fs1⟩,e1,e2⟩:=bind_some e;refine qc H0 os0 p σ H os ρ fs b fs1 _ R e1 λH' os' R'=>?_
 cases b with
 |true=>rw[qj rfl] at e2 ⊢;exact qa H0 os0 p D σ H' os' ρ fs1 r R' e2 k
 |false=>rw[qo qL] at e2 ⊢;exact qb H0 os0 p D σ H' os' ρ fs1 r R' e2 k
end
def gop(h:PyData->PyData->Option PyData)(f g:OPx):OPx:=λρ fs=>(f ρ fs).bind λx=>(g ρ fs).bind λy=>h x y
def gbo(f:OPx):Ro->Ob->Option Bool:=λρ fs=>match f ρ fs with |some (.bool c)=>some c|_=>none
section
variable{X:Cx}{C:AdX}{ℓ:Nat}{a b e:Expr}{es:List Expr}{f g:OPx}{ga:OLx}{p pos:Pos}{x:Str}{id:String}{r:List V->Hp->VK->Prop}
def V5{h:PyData->PyData->Option PyData}{ρ:Ro}{fs:Ob}{c:PdX}(q:gop h f g ρ fs=some c):∃d e,f ρ fs=some d/\g ρ fs=some e/\h d e=some c:=by
 have⟨d,e1,q⟩:=bind_some q;have⟨e,e2,q⟩:=bind_some q;exact⟨d,e,e1,e2,q⟩
def zh7{ρ:Ro}{fs:Ob}{c:Bool}(q:gbo f ρ fs=some c):f ρ fs=some (.bool c):=by
 unfold gbo at q;split at q
 ·rename_i e;cases q;exact e
 ·cases q
def zk2{op:Operator}{r:R2}{h:PyData->PyData->Option PyData}(ho:OpR X (binaryOp op) r)(hr:R2F X.K r h)(ha:GB X C ℓ a f)(hb:GB X C ℓ b g):GE X C ℓ (.BinOp a op b pos) (gop h f g):=by
 have⟨ta,pa,qa⟩:=ha;have⟨tb,pb,qb⟩:=hb;refine⟨_,zbh ho pa pb,λσ H os ρ fs c Q R q k=>?_⟩;have⟨d,e,e1,e2,e3⟩:=V5 q;refine qa σ H os ρ fs d _ R e1 λx H1 s1 r1=>qb σ H1 os ρ fs e _ (R.same s1) e2 λy H' s2 r2=>?_
 exact hr x y H' os d e c Q (R.rel.al.same (s1.trans s2)) (r1.same s2) r2 e3 λv H2 s3=>k v H2 ((s1.trans s2).trans s3)
def zbj(ha:GB X C ℓ a f)(hb:GB X C ℓ b g)(hs:zbR b):GE X C ℓ (.Subscript a b pos) (gop ixD f g):=by
 have⟨ta,pa,qa⟩:=ha;have⟨tb,pb,qb⟩:=hb;refine⟨_,zk4 zft pa pb hs,λσ H os ρ fs c Q R q k=>?_⟩;have⟨d,e,e1,e2,e3⟩:=V5 q;refine qa σ H os ρ fs d _ R e1 λx H1 s1 r1=>qb σ H1 os ρ fs e _ (R.same s1) e2 λy H' s2 r2=>?_
 exact zkT x y H' os d e c Q (R.rel.al.same (s1.trans s2)) (r1.same s2) r2 e3 λv H2 s3=>k v H2 ((s1.trans s2).trans s3)
def zmD{op:CmpOp}{r:R2}{h:PyData->PyData->Option PyData}(ho:OpR X (compareOp op) r)(hr:R2F X.K r h)(ha:GB X C ℓ a f)(hb:GB X C ℓ b g)(hm:behindInMarks op b=false):GT X C ℓ (.Compare a [op] [b] pos) (gbo (gop h f g)):=by
 have⟨ta,pa,qa⟩:=ha;have⟨tb,pb,qb⟩:=hb;refine⟨_,zbx ho pa pb hm,λσ H os ρ fs c Q R q k=>?_⟩;obtain⟨d,e,e1,e2,e3⟩:=V5 (zh7 q);refine qa σ H os ρ fs d _ R e1 λx H1 s1 r1=>qb σ H1 os ρ fs e _ (R.same s1) e2 λy H' s2 r2=>?_
 refine hr x y H' os d e (.bool c) _ (R.rel.al.same (s1.trans s2)) (r1.same s2) r2 e3 λv H2 s3 rv=>?_
 cases rv;exact⟨c,rfl,k H2 ((s1.trans s2).trans s3)⟩
def zlu{op:CmpOp}{r:R2}{h:PyData->PyData->Option PyData}(ho:OpR X (compareOp op) r)(hr:R2F X.K r h)(ha:GB X C ℓ a f)(hb:GB X C ℓ b g)(hm:behindInMarks op b=false:=by rfl):GE X C ℓ (.Compare a [op] [b] pos) (gop h f g):=by
 have⟨ta,pa,qa⟩:=ha;have⟨tb,pb,qb⟩:=hb;refine⟨_,zfy ho pa pb hm,λσ H os ρ fs c Q R q k=>?_⟩;have⟨d,e,e1,e2,e3⟩:=V5 q;refine qa σ H os ρ fs d _ R e1 λx H1 s1 r1=>qb σ H1 os ρ fs e _ (R.same s1) e2 λy H' s2 r2=>?_
 exact hr x y H' os d e c Q (R.rel.al.same (s1.trans s2)) (r1.same s2) r2 e3 λv H2 s3=>k v H2 ((s1.trans s2).trans s3)
def Vi{h:LPx}(hc:vF X (.builtin id) r)(hr:CRF X.K r h)(hg:Gl X x)(hm:X.mg x=none)(hv:bootBuiltins x=some (.builtin id))(ha:GAB X C ℓ (e::es) ga)(hn:x≠"__name__":=by decide)(hdb:NDx x:=by decide)(he:SEx X e es:=by rfl)(hpl:PLx X pos es:=by rfl):GE X C ℓ (.Call (.Name x p) (e::es) [] pos) (gcall h ga):=by
 have⟨t,pa,qa⟩:=ha;refine⟨_,V7 hc hg hm hv pa hn hdb he hpl,λσ H os ρ fs c Q R q k=>?_⟩;have⟨ds,e1,e2⟩:=bind_some q;exact qa σ H os ρ fs ds _ R e1 λvs H' s rv=>hr vs H' os ds c Q (R.rel.al.same s) rv e2 λv H2 s2=>k v H2 (s.trans s2)
def zb1{k k':Nat}{ps:LSr}{h:LPx}(D:yA X.prog X.w X.K X.mg X.base k x ps h)(hr:Room k' X.A)(hg:Gl X x)(ha:GA X C ℓ (e::es) ga)(hk:k<=k':=by decide)(hdb:NDx x:=by decide)(he:SEx X e es:=by rfl)(hpl:PLx X pos es:=by rfl):GE X C ℓ (.Call (.Name x p) (e::es) [] pos) (gcall h ga):=by
 have⟨t,pa,qa⟩:=ha;refine⟨_,WU D hr hg Jn pa hk hdb he hpl,λσ H os ρ fs c Q R q k=>?_⟩;have⟨ds,e1,e2⟩:=bind_some q;refine qa σ H os ρ fs ds _ R e1 λvs H' s rv=>?_
 rw[kj];exact⟨os,ds,c,R.rel.al.same s,rv,e2,λv H2 s2=>k v H2 (s.trans s2)⟩
end
section
variable{X:Cx}{C:AdX}{ℓ:Nat}{pos:Pos}
def Jx(c:Ro->Ob->Option (Bool×Ob))(b:OFx):Nat->Ro->Ob->Option Flo
 |0,_,_=>none
 |n+1,ρ,fs=>(c ρ fs).bind λt=>if t.1 then (match b ρ t.2 with |some (.nx ρ' fs')=>Jx c b n ρ' fs'|r=>r) else some (.nx ρ t.2)
def owh(m:Ro->Ob->Nat)(c:Ro->Ob->Option (Bool×Ob))(b:OFx):OFx:=λρ fs=>Jx c b (m ρ fs) ρ fs
def Zy(m:Ro->Ob->Nat){c:Expr}{body:List Stmt}{fc:Ro->Ob->Option (Bool×Ob)}{fb:OFx}(hp:PassesOwn (model X.prog X.w) X.A X.env X.xe)(hc:GTM X C ℓ c fc)(hb:OSs X C ℓ body fb):OS X C ℓ (.While c body [] pos) (owh m fc fb):=by
 have⟨tc,pc,qc⟩:=hc;have⟨tb,pb,qb⟩:=hb;refine⟨_,zcZ hp pc pb,λH0 os0 p D σ H os ρ fs r R e k=>?_⟩;refine⟨λn σ' H'=>∃os' ρ' fs',MSt X.K C ℓ H0 os0 p H' os' σ' ρ' fs'/\Jx fc fb n ρ' fs'=some r,⟨m ρ fs,os,ρ,fs,R,e⟩,?_⟩;rintro n σ' H' ⟨os',ρ',fs',R',e'⟩;cases n with
 |zero=>cases e'
 |succ n=>
  have⟨⟨b,fs1⟩,e1,e2⟩:=bind_some e';refine qc H0 os0 p σ' H' os' ρ' fs' b fs1 _ R' e1 λH2 os2 R2=>?_
  cases b with
  |false=>rw[qo qL] at e2 ⊢;cases e2;exact k _ _ _ R2
  |true=>
   rw[qj rfl] at e2 ⊢;refine⟨λσ3 H3=>∃os' ρ' fs',MSt X.K C ℓ H0 os0 p H3 os' σ3 ρ' fs'/\Jx fc fb n ρ' fs'=some r,λσ3 H3 h=>⟨n,kR n,h⟩,?_⟩;split at e2
   ·rename_i ρ2 fs2 e3;exact qb H0 os0 p _ σ' H2 os2 ρ' fs1 _ R2 e3 λσ3 H3 os3 R3=>⟨os3,ρ2,fs2,R3,e2⟩
   ·cases r with
    |nx ρ2 fs2=>rename_i hn;exact absurd e2 (hn ρ2 fs2)
    |rt d fs2=>exact qb H0 os0 p _ σ' H2 os2 ρ' fs1 _ R2 e2 k
    |rf d=>exact qb H0 os0 p _ σ' H2 os2 ρ' fs1 _ R2 e2 k
end
def GIR(X:Cx)(C:AdX)(ℓ:Nat)(tg iter:Expr)(f:OLx):Prop:=∃wi:TI,PI X tg iter wi/\∀(σ:St)(H:Hp)(os:LAd)(ρ:Ro)(fs:Ob)(ds:LPd)(R:It->Hp->Prop),vC X.K C ℓ H os σ ρ fs->f ρ fs=some ds->
  (∀J H',Same H H'->(∀G G0,Walks X.K G G0 J ds)->R J H')->wi σ H R
def grn(g:OLx):OLx:=λρ fs=>match g ρ fs with
 |some [.int j]=>if -(2 ^ 62)<=j/\j<2 ^ 62 then some (jT 0 j.toNat) else none
 |_=>none
section
variable{X:Cx}{C:AdX}{ℓ:Nat}{tg a:Expr}{p pos:Pos}{g:OLx}
def zeZ(hg:Gl X "range")(hm:X.mg "range"=none)(ha:GA X C ℓ [a] g)(hs:starEach [a] X.env=[(false,eval a X.env)]:=by rfl):GIR X C ℓ tg (.Call (.Name "range" p) [a] [] pos) (grn g):=by
 have⟨t,pa,qa⟩:=ha;refine⟨_,zaV hg hm pa hs,λσ H os ρ fs ds R rel e k=>?_⟩;unfold grn at e;split at e
 ·rename_i j e1;split at e
  ·rename_i hc;cases e;refine qa σ H os ρ fs _ _ rel e1 λvs H' s r=>?_
   cases r with
   |cons h r=>cases r;cases h;exact⟨j,rfl,hc.1,hc.2,k _ H' s λG G0=>Wt⟩
  ·cases e
 ·cases e
end
def MSt.sets{K:FRx}{C:AdX}{ℓ:Nat}{H0 H:Hp}{os0 os:LAd}{p:AdX}{is:LNt}{σ σ':St}{ρ ρ':Ro}{fs:Ob}(s:Sets K (offs H os) is σ ρ σ' ρ')(hi:∀i∈is,i≠ℓ)(h:MSt K C ℓ H0 os0 p H os σ ρ fs):MSt K C ℓ H0 os0 p H os σ' ρ' fs:=by
 induction s with
 |nil=>exact h
 |set r _ ih=>exact ih (λi hm=>hi i (.tail _ hm)) (h.set (hi _ (.head _)) r)
section
variable{X:Cx}{C:AdX}{ℓ:Nat}{pos:Pos}
def zaP(bd:PyData->Ro->Option Ro)(b:OFx):List PyData->Ro->Ob->Option Flo
 |[],ρ,fs=>some (.nx ρ fs)
 |d::ds,ρ,fs=>(bd d ρ).bind λρ1=>match b ρ1 fs with |some (.nx ρ2 fs2)=>zaP bd b ds ρ2 fs2|r=>r
def ofor(fi:OLx)(bd:PyData->Ro->Option Ro)(b:OFx):OFx:=λρ fs=>(fi ρ fs).bind λds=>zaP bd b ds ρ fs
def zli{tg iter:Expr}{body:List Stmt}{fi:OLx}{is:LNt}{bd:PyData->Ro->Option Ro}{fb:OFx}(hp:PassesOwn (model X.prog X.w) X.A X.env X.xe)(hc:X.calm=true)(hi:GIR X C ℓ tg iter fi)(hg:FG X tg is bd)(hb:OSs X C ℓ body fb)(his:∀i∈is,i≠ℓ:=by decide)(hs:FSx X iter:=by exact λ_=>rfl):OS X C ℓ (.For tg iter body [] pos) (ofor fi bd fb):=by
 have⟨wi,pi,qi⟩:=hi;have⟨tb,pb,qb⟩:=hb;refine⟨_,zd7 hp hc pi hg pb hs,λH0 os0 p D σ H os ρ fs r R e k=>?_⟩;have⟨ds,e1,e2⟩:=bind_some e;refine qi σ H os ρ fs ds _ R.w8 e1 λJ H1 s1 W=>?_
 refine⟨λi m σ' H'=>m=ds.length - i/\i<=ds.length/\∃os' ρ' fs',MSt X.K C ℓ H0 os0 p H' os' σ' ρ' fs'/\zaP bd fb (ds.drop i) ρ' fs'=some r,
  ⟨ds.length,rfl,kE _,os,ρ,fs,R.same s1,e2⟩,?_⟩
 rintro i m σ' H' ⟨rfl,hi,os',ρ',fs',R',e'⟩;obtain⟨w1,w2⟩:=W H' (offs H' os') H' os' R'.sr.rel.al (Same.refl _) (Same.refl _);by_cases hlt:i<ds.length
 ·obtain⟨d,hd⟩:∃d,ds[i]?=some d:=⟨_,qk hlt⟩;have⟨g1,g2⟩:=w1 i d hd;have ed:ds.drop i=d::ds.drop (i+1):=by
   rw[gN hlt];rw[qk hlt] at hd;cases hd;rfl
  rw[ed] at e';have⟨ρ1,e3,e4⟩:=bind_some e';refine .inr ⟨g1,λσ2 H2=>i+1<=ds.length/\∃os' ρ' fs',MSt X.K C ℓ H0 os0 p H2 os' σ2 ρ' fs'/\zaP bd fb (ds.drop (i+1)) ρ' fs'=some r,?_,?_⟩
  ·rintro σ2 H2 ⟨h1,h2⟩;exact⟨ds.length - (i+1),by omega,rfl,h1,h2⟩
  ·intro x H2 hy;have⟨s2,rx⟩:=g2 x H2 hy;refine⟨os',d,ρ',ρ1,rx,e3,λσ2 st=>?_⟩;have R2:MSt X.K C ℓ H0 os0 p H2 os' σ2 ρ1 fs':=MSt.sets st his (R'.same s2);split at e4
   ·rename_i ρ2 fs2 e5;exact qb H0 os0 p _ σ2 H2 os' ρ1 fs' _ R2 e5 λσ3 H3 os3 R3=>⟨hlt,os3,ρ2,fs2,R3,e4⟩
   ·cases r with
    |nx ρ2 fs2=>rename_i hn;exact absurd e4 (hn ρ2 fs2)
    |rt d fs2=>exact qb H0 os0 p _ σ2 H2 os' ρ1 fs' _ R2 e4 k
    |rf d=>exact qb H0 os0 p _ σ2 H2 os' ρ1 fs' _ R2 e4 k
 ·have e:i=ds.length:=by omega
  subst e;rw[mR] at e';cases e';exact .inl ⟨w2,k _ _ _ R'⟩
end
def Ini(P:Program)(w:World)(K:FRx)(mg:Str->Option Value)(base:Heap)(k:Nat)(C:AdX)(x:Str)(ps:LSr)(h:MFx):Prop:=∃f fd,Mk K C f/\v7 P w K mg base CX0 k f fd ps (spM K C h)/\Binds K fd ps []/\mg x=some (.ref C)
def GN(X:Cx)(C:AdX)(ℓ:Nat)(C2:AdX)(e:Expr)(f:Ro->Ob->Option Ob):Prop:=∃t:TE,PE X e t/\∀(σ:St)(H:Hp)(os:LAd)(ρ:Ro)(fs gs:Ob)(Q:VK),vC X.K C ℓ H os σ ρ fs->f ρ fs=some gs->
  (∀q H' os' B,Left H os [] H' os'->FOk X.K H' os' (.ref q) (.ob C2 gs) B->B.Nodup->(∀a∈B,a∈os'/\H a=none)->Q (.ref q) H')->t σ H Q
def FN(X:Cx)(C2:AdX)(e:Expr)(f:Ro->Option Ob):Prop:=∃t:TE,PE X e t/\∀(σ:St)(H:Hp)(os:LAd)(ρ:Ro)(gs:Ob)(Q:VK),xC X.K H os σ ρ->f ρ=some gs->
  (∀q H' os' B,Left H os [] H' os'->FOk X.K H' os' (.ref q) (.ob C2 gs) B->B.Nodup->(∀a∈B,a∈os'/\H a=none)->Q (.ref q) H')->t σ H Q
section
variable{X:Cx}{C C2:AdX}{ℓ:Nat}{e:Expr}{es:List Expr}{ga:RLx}{p pos:Pos}{x:Str}{k k':Nat}{ps:LSr}
def FN.gn{f:Ro->Option Ob}(h:FN X C2 e f):GN X C ℓ C2 e (λρ _=>f ρ):=by
 have⟨t,p,q⟩:=h;exact⟨t,p,λσ H os ρ fs gs Q R e k=>q σ H os ρ gs Q R.rel e k⟩
def fnw(h:MFx)(ga:RLx):Ro->Option Ob:=λρ=>(ga ρ).bind λds=>match h [] ds with |some (.none,gs)=>some gs|_=>none
def zbn{h:MFx}(I:Ini X.prog X.w X.K X.mg X.base k C2 x ps h)(hr:Room k' X.A)(hg:Gl X x)(ha:FA X (e::es) ga)(hk:k+1<=k':=by decide)(hdb:NDx x:=by decide)(he:SEx X e es:=by rfl)(hpl:PLx X pos es:=by rfl):FN X C2 (.Call (.Name x p) (e::es) [] pos) (fnw h ga):=by
 have⟨fa,fd,M,F,B,mx⟩:=I;have⟨t,pa,qa⟩:=ha;refine⟨_,zi9 M F (hr.mono hk) hg mx B .nil Jn pa hdb he hpl,λσ H os ρ gs Q R e kk=>?_⟩;have⟨ds,e1,e2⟩:=bind_some e;refine qa σ H os ρ ds _ R e1 λus H1 s1 ru q dx nq ndx dq=>?_
 split at e2
 ·rename_i gs' e3;cases e2;have al1:Al H1 os:=R.al.same s1;have nos:∀a,H1 a=none->a∉os:=λa n=>al1.new n
  have same:Same H1 (upd (upd H1 dx (.own q)) q (.ins C2 dx [])):=λb o z=>by
   rw[zV (λw=>by rw[w,nq] at z;cases z),zV (λw=>by rw[w,ndx] at z;cases z)];exact z
  have so:Same (offs H1 os) (offs (upd (upd H1 dx (.own q)) q (.ins C2 dx [])) (q::os)):=jo nq same;rw[kj];refine⟨q,us,q::os,ds,[],.none,gs,[q],rfl,.ob zH .nil,ke.mpr ⟨by simp,.nil⟩,λa ha=>by rw[qQ.mp ha];exact .head _,λa ha=>?_,ru.same so,e3,λv H' os' A' sm al o' nd' hA' sub new rv=>?_⟩
  ·rcases qx.mp ha with z|z
   ·rw[z];exact⟨_,zH⟩
   ·have⟨o,w⟩:=al1 a z;exact⟨o,same a o w⟩
  ·cases rv;have out:∀a,offs (upd (upd H1 dx (.own q)) q (.ins C2 dx [])) [q] a=none->H1 a=none:=λa z=>by
    by_cases w:a=q
    ·rw[w];exact nq
    ·rw[zw (by simpa using w)] at z;exact same.free z
   refine⟨rfl,kk q H' os' A' ⟨λb o z=>?_,al,λa ha=>.inr ?_,λa ha=>?_⟩ o' nd' λa ha=>⟨(hA' a ha).1,s1.free (out a (hA' a ha).2)⟩⟩
   ·have z1:=s1 b o z;refine sm b o ?_;rw[zw (λw=>by rw[qQ.mp w,nq] at z1;cases z1)];exact same b o z1
   ·rcases sub a (.tail _ ha) with w|w
    ·exact absurd (by rw[qQ.mp w] at ha;exact ha) (nos q nq)
    ·exact w
   ·rcases new a ha with w|w
    ·rcases qx.mp w with u|u
     ·right
      rw[zw (by simp),u];exact s1.free nq
     ·exact .inl u
    ·right
     rw[zw (by simp)];exact s1.free (out a w)
 ·cases e2
end
section
variable{X:Cx}{C C2:AdX}{ℓ:Nat}{e:Expr}{pos pos' p0:Pos}{x f:Str}
def zan{H H':Hp}{os os':LAd}(L:Left H os [] H' os'):Same (offs H os) (offs H' os'):=L.data λa ha=>by cases ha
def zkl(x:Str)(C2:AdX)(g:Ro->Ob->Option Ob):OFx:=λρ fs=>(g ρ fs).bind λgs=>if fs.length<1000 then some (.nx ρ (zP x (.ob C2 gs) fs)) else none
def zkr{g:Ro->Ob->Option Ob}(cl:Cls X.K C)(na:zI X.K C f)(he:GN X C ℓ C2 e g)(hN:X.N[ℓ]?=some x:=by rfl)(hv:Vis X.env.scope x:=by trivial)(hd:NDx x:=by decide)(hcd:NCx x:=by decide)(hs:swapsWith e (some (.Attribute (.Name x p0) f pos')) pos.line X.env=pure false:=by rfl):OS X C ℓ (.Assign [.Attribute (.Name x p0) f pos'] e pos) (zkl f C2 g):=by
 have⟨t,pe,q⟩:=he;refine⟨_,zbD (yv (i:=ℓ) hN hv hd hcd) pe hs,λH0 os0 p D σ H os ρ fs r R e k=>?_⟩;have⟨gs,e1,e2⟩:=bind_some e;split at e2
 ·rename_i hl;cases e2;refine q σ H os ρ fs gs _ R.w8 e1 λq H' os' B L o nd hB=>?_
  have⟨A,h1,h2,h3,h4⟩:=R.ob;have cell:∀a∈A,H' a=H a:=λa ha=>by
   have⟨o,w⟩:=h1.has a ha;rw[w];exact L.cell (by simp) w
  have h1':=h1.keep (zan L) cell;have sr':=R.sr.left L (λa ha=>by cases ha) λj c q m a ha=>by cases ha
  have ins:∀a∈A,a∈os':=λa ha=>by
   rcases L.sub a (h3 a ha).1 with w|w
   ·cases w
   ·exact w
  cases h1' with
  |ob hp r=>
   refine⟨_,R.self,_,_,_,_,rfl,hp,cl,na,by rw[r.len];exact hl,k _ _ _ (YH sr' R.self hp r h2 (λa ha=>⟨ins a ha,(h3 a ha).2⟩) h4 o nd λa ha=>⟨(hB a ha).1,R.sr.sm.free (hB a ha).2,λw=>?_,λj c q m w=>?_⟩)⟩
   ·have⟨o,z⟩:=h1.has a w;rw[(hB a ha).2] at z;cases z
   ·have⟨b,o,w1,w2,w3,_⟩:=R.sr.rel.mu j c q m;rw[w] at w1;cases w1;rw[(hB a ha).2] at w3;cases w3
 ·cases e2
end
def SRo.zhx{K:FRx}{H0 H:Hp}{os0 os:LAd}{σ:St}{ρ:Ro}(h:SRo K H0 os0 H os σ ρ)(i:Nat)(v:Option V):SRo K H0 os0 H os (σ.set i v) (ρ.set i .no):=by
 have m:∀{j:Nat} {c:Sl},(ρ.set i .no)[j]?=some c->c≠ .no->i≠j/\ρ[j]?=some c:=λ{j c} q hc=>by
  rcases ym q with⟨_,_,z⟩|z
  ·exact absurd z.symm hc
  ·exact z
 have nm:∀{c:Sl},isM c=true->c≠ .no:=λ{c} hm z=>by rw[z] at hm;cases hm
 refine⟨⟨λj d q=>?_,λj c q hm=>?_,h.rel.al,by rw[k7,k7];exact h.rel.len⟩,h.sm,h.sub,h.new,h.al0,λj c q hm a e=>?_,λj k c c' hjk q1 q2 m1 m2 a e1=>?_⟩
 ·obtain⟨hj,q⟩:=m q (by intro z;cases z);rw[qH hj];exact h.rel.pu j d q
 ·obtain⟨hj,q⟩:=m q (nm hm);rw[qH hj];exact h.rel.mu j c q hm
 ·obtain⟨hj,q⟩:=m q (nm hm);rw[qH hj] at e;exact h.own j c q hm a e
 ·obtain⟨hj,q1⟩:=m q1 (nm m1);obtain⟨hk,q2⟩:=m q2 (nm m2);rw[qH hj] at e1;rw[qH hk];exact h.ap j k c c' hjk q1 q2 m1 m2 a e1
section
variable{X:Cx}{C:AdX}{e:Expr}{rest:List Stmt}{pos:Pos}{f:Ro->Option Ob}{g:OFx}
def zdQ(i:Nat)(f:Ro->Option Ob)(g:OFx):RFx:=λρ=>(f ρ).bind λgs=>if i<ρ.length then (match g (ρ.set i .no) gs with |some (.rt d _)=>some (.rt d)|some (.rf d)=>some (.rt d)|_=>none) else none
def zfW(i:Nat){x:Str}{pos':Pos}(hN:X.N.Nodup)(he:FN X C e f)(hr:OSs X C i rest g)(hi:X.N[i]?=some x:=by rfl)(hx:Loc X.env.scope x:=by trivial)(hs:swapsWith e (some (.Name x pos')) pos.line X.env=pure false:=by rfl)(hf:FNx X x:=by trivial):FSs X (.Assign [.Name x pos'] e pos::rest) (zdQ i f g):=by
 have⟨t,p,q⟩:=he;have⟨t2,p2,q2⟩:=hr;refine⟨_,v9 (wW hN hi hx p hs hf) p2,λH0 os0 D σ H os ρ r R e k=>?_⟩;have⟨gs,e1,e2⟩:=bind_some e;split at e2
 ·rename_i hl;split at e2
  ·rename_i d fs' e3;cases e2;refine q σ H os ρ gs _ R.rel e1 λa H' os' B L o nd hB=>?_
   have sr':=(R.left L (λb hb=>by cases hb) λj c q m b hb=>by cases hb).zhx i (some (.ref a));refine q2 H0 os0 a D _ H' os' _ gs _ ⟨sr',kG (by rw[R.rel.len];exact hl),B,o,nd,λb hb=>⟨(hB b hb).1,R.sm.free (hB b hb).2⟩,λj c q m b hb w=>?_⟩ e3 λv H2 os2 M rv=>k v H2 M.sm (rv.same (xh M.sub))
   rcases ym q with⟨_,_,z⟩|⟨hj,q⟩
   ·rw[<-z] at m;cases m
   ·rw[qH hj] at w;have⟨b',o',w1,w2,w3,_⟩:=R.rel.mu j c q m;rw[w] at w1;cases w1;rw[(hB b hb).2] at w3;cases w3
  ·rename_i d e3;cases e2;refine q σ H os ρ gs _ R.rel e1 λa H' os' B L o nd hB=>?_
   have sr':=(R.left L (λb hb=>by cases hb) λj c q m b hb=>by cases hb).zhx i (some (.ref a));refine q2 H0 os0 a D _ H' os' _ gs _ ⟨sr',kG (by rw[R.rel.len];exact hl),B,o,nd,λb hb=>⟨(hB b hb).1,R.sm.free (hB b hb).2⟩,λj c q m b hb w=>?_⟩ e3 λv H2 sm rv=>k v H2 sm rv
   rcases ym q with⟨_,_,z⟩|⟨hj,q⟩
   ·rw[<-z] at m;cases m
   ·rw[qH hj] at w;have⟨b',o',w1,w2,w3,_⟩:=R.rel.mu j c q m;rw[w] at w1;cases w1;rw[(hB b hb).2] at w3;cases w3
  ·cases e2
 ·cases e2
end
section
variable{X:Cx}{C:AdX}{ℓ:Nat}{e:Expr}{es:List Expr}{f:OPx}{ga:OLx}{pos apos p0 p2:Pos}{x m:Str}{k k':Nat}{ps:LSr}{lo hi:Option Expr}{l h:Ro->Option (Option Int)}
def gtp(g:OLx):OPx:=λρ fs=>(g ρ fs).bind λds=>if ds.length<=16777216 then some (.tuple ds) else none
def zlG{x1}(h:GA X C ℓ es ga):GE X C ℓ (.Tuple es x1 pos) (gtp ga):=by
 have⟨t,p,q⟩:=h;refine⟨_,zew p,λσ H os ρ fs d Q R e k=>?_⟩;have⟨ds,e1,e2⟩:=bind_some e;by_cases hl:ds.length<=16777216
 ·rw[qj hl] at e2;cases e2;refine q σ H os ρ fs ds _ R e1 λvs H' s r=>⟨by rw[r.length];exact hl,λp hp=>k _ _ (s.trans (ya hp _)) (.tup (SqT.of ?_) (r.same (zm (ya hp _) os)))⟩
  rw[zw ((R.rel.al.same s).new hp)];exact zH
 ·rw[qo hl] at e2;cases e2
def glF(f:OLx):OPx:=λρ fs=>(f ρ fs).map .list
def GL.ge{f:OLx}(h:GL X C ℓ e f):GE X C ℓ e (glF f):=by
 have⟨t,h1,h2⟩:=h;refine⟨t,h1,λσ H os ρ fs d Q R q k=>?_⟩;have⟨ds,e1,e2⟩:=map_some q;subst e2;refine h2 σ H os ρ fs ds Q R e1 λa xs H' n s hx r=>k _ H' s (.lst (SqL.of ?_) (r.same (xh λb hb=>qA _ hb)))
 rw[zw (R.rel.al.new n)];exact hx
def gsl(f:OPx)(l h:Ro->Option (Option Int)):OLx:=λρ fs=>match f ρ fs with
 |some (.list ds)=>(l ρ).bind λlo=>(h ρ).bind λhi=>some (cut ds lo hi)
 |_=>none
def ziw(ha:GB X C ℓ e f)(hl:FO X lo l)(hh:FO X hi h):GL X C ℓ (.Subscript e (.Slice lo hi none p2) pos) (gsl f l h):=by
 have⟨ta,pa,qa⟩:=ha;have⟨tl,pl,ql⟩:=hl;have⟨th,ph,qh⟩:=hh;refine⟨_,zcx zf5 pa pl ph,λσ H os ρ fs c Q R q k=>?_⟩;unfold gsl at q;split at q
 ·rename_i ds e1;have⟨a,e2,q⟩:=bind_some q;have⟨b,e3,q⟩:=bind_some q;cases q;refine qa σ H os ρ fs _ _ R e1 λv H1 s1 r1=>ql σ H1 os ρ a _ (R.rel.same s1) e2 λH2 s2=>qh σ H2 os ρ b _ (R.rel.same (s1.trans s2)) e3 λH3 s3=>?_
  obtain⟨p,xs,rfl,hS,r⟩:=(r1.same (s2.trans s3)).lst;exact⟨p,xs,rfl,hS,λq hq=>k q _ _ ((s1.trans s2).trans s3 |>.free hq) (((s1.trans s2).trans s3).trans (ya hq _)) zH (jV hq (zc6 r a b))⟩
 ·cases q
def VV{pl:Sem Bool}{h:MFx}(cl:Cls X.K C)(M:Met X.prog X.w X.K X.mg X.base k C m ps h)(hr:Room k' X.A)(hk:k<=k':=by decide)(hN:X.N[ℓ]?=some x:=by rfl)(hv:Vis X.env.scope x:=by trivial)(hd:NDx x:=by decide)(hcd:NCx x:=by decide)(ht:eval (.Call (.Attribute (.Name x p0) m apos) [] [] pos) X.env=(do
   let ov <-eval (.Name x p0) X.env
   standAt apos.atName
   let (f,first) <-holding [ov] (getMethod ov m pl)
   callWith pos f first (backTo pos (starEach [] X.env)) (backToKw pos (keywordEach [] X.env))):=by rfl):GM X C ℓ (.Call (.Attribute (.Name x p0) m apos) [] [] pos) (gms m h gA0):=by
 have⟨fa,fd,F,B,mm⟩:=M;refine⟨_,zdz (pl:=pl) (yv (i:=ℓ) hN hv hd hcd) cl mm F (hr.mono hk) B .nil Jn ht,λH0 os0 p σ H os ρ fs d fs' Q R e kk=>?_⟩;unfold gms at e;split at e
 ·rename_i hm;have⟨ds,e1,e2⟩:=bind_some e;cases e1;have⟨A,h1,h2,h3,h4⟩:=R.ob;cases h1 with
  |ob hp rr=>
   refine⟨_,R.self,p,_,_,rfl,hp,rr.nolook (gM.mp hm),?_⟩;have o1:=FOk.ob hp rr;refine⟨p,[],os,[],fs,d,fs',_,rfl,o1,h2,λa ha=>(h3 a ha).1,R.sr.rel.al,.nil,e2,λv H' os' B' sm al o' nd' hB' sub new rv=>?_⟩;exact kk v H' os' (R.own o1 ⟨sm,al,sub,new⟩ o' nd' hB') rv
 ·cases e
end
structure zgZ(K:FRx)(C:AdX)(ℓ:Nat)(H:Hp)(os:LAd)(σ:St)(ρ:Ro)(fs:Ob):Prop where
 rel:xC K H os σ ρ
 ob:∃p dx vs,σ[ℓ]?=some (some (.ref p))/\H p=some (.ins C dx vs)/\∀x d,gg x ρ fs=some d->∃v,vs.lookup x=some v/\Rep K (offs H os) v d
def zgZ.same{K:FRx}{C:AdX}{ℓ:Nat}{H H':Hp}{os:LAd}{σ:St}{ρ:Ro}{fs:Ob}(h:zgZ K C ℓ H os σ ρ fs)(e:Same H H'):zgZ K C ℓ H' os σ ρ fs:=by
 have⟨p,dx,vs,h1,h2,h3⟩:=h.ob;exact⟨h.rel.same e,p,dx,vs,h1,e _ _ h2,λx d q=>by
  have⟨v,l,r⟩:=h3 x d q;exact⟨v,l,r.same (zm e os)⟩⟩
def MSt.znI{K:FRx}{C:AdX}{ℓ:Nat}{H0 H:Hp}{os0 os:LAd}{p:AdX}{σ:St}{ρ:Ro}{fs:Ob}(h:MSt K C ℓ H0 os0 p H os σ ρ fs):∃os',zgZ K C ℓ H os' σ ρ fs/\(∀a∈os0,a∈os'):=by
 have⟨A,h1,h2,h3,h4⟩:=h.ob;have sub:∀b∈os.filter (λc=>c∉A),b∈os:=λb hb=>(ku.mp hb).1
 have so:Same (offs H os) (offs H (os.filter λc=>c∉A)):=xh sub;refine⟨os.filter λc=>c∉A,⟨⟨λi d q=>?_,λi c q m=>?_,λb hb=>h.sr.rel.al b (sub b hb),h.sr.rel.len⟩,?_⟩,λa ha=>ku.mpr ⟨h.sr.sub a ha,?_⟩⟩
 ·have⟨v,w1,w2⟩:=h.sr.rel.pu i d q;exact⟨v,w1,w2.same so⟩
 ·have⟨a,o,w1,w2,w3,w4⟩:=h.sr.rel.mu i c q m;exact⟨a,o,w1,ku.mpr ⟨w2,by simpa using λz=>h4 i c q m a z w1⟩,w3,w4.same so⟩
 ·cases h1 with
  |ob hp r=>
   refine⟨p,_,_,h.self,hp,λx d q=>?_⟩;unfold gg at q;split at q
   ·rename_i d' ef;cases q;have⟨v,B,l,o,_⟩:=r.look ef;cases o with
    |pu rv=>exact⟨_,l,rv.same so⟩
   ·rename_i ds ef;cases q;have⟨v,B,l,o,hB⟩:=r.look ef;cases o with
    | @ow a0 xs0 _ ha rv=>
     have na:a0∉os.filter λc=>c∉p::_:=λz=>by
      have w:=(ku.mp z).2;simp at w;exact w.2 (hB a0 (.head _))
     exact⟨_,l,.lst (SqL.of (by rw[zw na];exact ha)) (rv.same so)⟩
   ·cases q
 ·have:a∉A:=λz=>by
   have⟨o,e⟩:=h.sr.al0 a ha;rw[(h3 a z).2] at e;cases e
  simpa using this
def GZ(X:Cx)(C:AdX)(ℓ:Nat)(e:Expr)(f:OPx):Prop:=∃t:TE,PE X e t/\∀(σ:St)(H:Hp)(os:LAd)(ρ:Ro)(fs:Ob)(d:PdX)(Q:VK),zgZ X.K C ℓ H os σ ρ fs->f ρ fs=some d->(∀v H',Same H H'->Rep X.K (offs H' os) v d->Q v H')->t σ H Q
def GZA(X:Cx)(C:AdX)(ℓ:Nat)(es:List Expr)(f:OLx):Prop:=∃t:TA,PA X es t/\∀(σ:St)(H:Hp)(os:LAd)(ρ:Ro)(fs:Ob)(ds:LPd)(Q:List V->Hp->Prop),zgZ X.K C ℓ H os σ ρ fs->f ρ fs=some ds->(∀vs H',Same H H'->Reps X.K (offs H' os) vs ds->Q vs H')->t σ H Q
section
variable{X:Cx}{C:AdX}{ℓ:Nat}{e:Expr}{es:List Expr}{f:OPx}{g:OLx}{pos p0:Pos}{x n:Str}
def FE.gz{f:RPx}(h:FE X e f):GZ X C ℓ e (λρ _=>f ρ):=by
 have⟨t,p,q⟩:=h;exact⟨t,p,λσ H os ρ fs d Q R e k=>q σ H os ρ d Q R.rel e k⟩
def zlU(cl:Cls X.K C)(na:zI X.K C n)(hN:X.N[ℓ]?=some x:=by rfl)(hv:Vis X.env.scope x:=by trivial)(hd:NDx x:=by decide)(hcd:NCx x:=by decide)(hb:ABx X (.Name x p0) n:=by rfl):GZ X C ℓ (.Attribute (.Name x p0) n pos) (gg n):=by
 refine⟨_,vb (yv (i:=ℓ) hN hv hd hcd) hb,λσ H os ρ fs d Q R e k=>?_⟩;have⟨p,dx,vs,h1,h2,h3⟩:=R.ob;have⟨v,l,r⟩:=h3 n d e;exact⟨_,h1,_,_,_,_,_,rfl,h2,cl,na,l,k v H (Same.refl H) r⟩
def zkw:GZA X C ℓ [] gA0:=⟨_,xP,λ_ H _ _ _ _ _ _ q k=>by cases q;exact k [] H (Same.refl H) .nil⟩
def zcT(ha:GZ X C ℓ e f)(hr:GZA X C ℓ es g)(hs:SEx X e es:=by rfl):GZA X C ℓ (e::es) (gAC f g):=by
 have⟨ta,pa,qa⟩:=ha;have⟨tb,pb,qb⟩:=hr;refine⟨_,yJ pa pb hs,λσ H os ρ fs ds Q R q k=>?_⟩;have⟨d,e1,q⟩:=bind_some q;have⟨r,e2,e3⟩:=map_some q;subst e3;exact qa σ H os ρ fs d _ R e1 λx H1 s1 r1=>qb σ H1 os ρ fs r _ (R.same s1) e2 λxs H2 s2 r2=>k _ H2 (s1.trans s2) (.cons (r1.same (zm s2 os)) r2)
def zmE{x1}(h:GZA X C ℓ es g):GZ X C ℓ (.Tuple es x1 pos) (gtp g):=by
 have⟨t,p,q⟩:=h;refine⟨_,zew p,λσ H os ρ fs d Q R e k=>?_⟩;have⟨ds,e1,e2⟩:=bind_some e;by_cases hl:ds.length<=16777216
 ·rw[qj hl] at e2;cases e2;refine q σ H os ρ fs ds _ R e1 λvs H' s r=>⟨by rw[r.length];exact hl,λp hp=>k _ _ (s.trans (ya hp _)) (.tup (SqT.of ?_) (r.same (zm (ya hp _) os)))⟩
  rw[zw ((R.rel.al.same s).new hp)];exact zH
 ·rw[qo hl] at e2;cases e2
def ZO(f:OPx):OFx:=λρ fs=>(f ρ fs).bind λd=>some (.rf d)
def zkA(h:GZ X C ℓ e f):OS X C ℓ (.Return (some e) pos) (ZO f):=by
 have⟨t,p,q⟩:=h;refine⟨_,Vc p,λH0 os0 p D σ H os ρ fs r R e k=>?_⟩;have⟨d,e1,e2⟩:=bind_some e;cases e2;have⟨os',Z,sub⟩:=R.znI;exact q σ H os' ρ fs d _ Z e1 λv H' s rv=>k v H' (R.sr.sm.trans s) (rv.same (xh sub))
end
def Yy(K:FRx)(mg:Str->Option Value)(C:AdX)(y x qual:Str)(st:Stmt):Prop:=∃f fd,Fun K x qual st f fd/\Mk K C f/\mg y=some (.ref C)
section
variable{P:Program}{w:World}{K:FRx}{mg:Str->Option Value}{base:Heap}{C:AdX}
def Ini.mk{x y qual:Str}{st:Stmt}{N ps:LSr}{k m:Nat}{b:OFx}(h:Yy K mg C y x qual st)(S:zr N ps (zc st))(hb:∀(kV doc pm:Value)(an:Option Addr)(cdv ct:Value)(us:LVl),us.length=ps.length->bindArgs (W.fnOf x qual (jm st) (yK st) (zc st) .none kV doc pm an cdv ct) ⟨us,[]⟩=pure (ps.zip us))(hm:ps.length=m+1)(hN:m<N.length)(hbody:∀(f:AdX)(cdv:Value)(A:Around)(outer:List Env)(s:ShX)(H:Hp)(E:XK),Room k (A.deeper (envOfC qual (zc st) s.heap.objs.size f cdv))->
   OSs (Ug CX0 P w K mg base N qual (zc st) f cdv A outer s H E).nox C 0 (yK st) b):Ini P w K mg base (k+1) C y ps (fnM N.length m b):=by
 have⟨f,fd,F,M,my⟩:=h;refine⟨f,fd,M,F.ok S (λvs H Q E q=>?_) (λcdv A outer s H vs Q E hr q=>?_),F.binds hb,my⟩
 ·obtain⟨p,us,os,ds,fs,d,fs',A,rfl,_,_,_,_,r,e,_⟩:=q;unfold fnM at e;split at e
  ·rename_i hl;rw[qX,r.length,hl,hm]
  ·cases e
 ·have⟨t,pp,q'⟩:=hbody f cdv A outer s H E hr;obtain⟨p,us,os,ds,fs,d,fs',A,rfl,o,nd,hA,al,r,e,kk⟩:=q;unfold fnM at e;split at e
  ·rename_i hl;refine⟨t,pp,?_⟩;have R:=zaL (N:=N) al r o nd hA m hl hN;have go:∀v H' os',zhX K C (offs H A) (os.filter λa=>a∉A) p H' os' fs'->Rep K (offs H' os') v d->Q v H':=λv H' os' M rv=>by
    have⟨A',o',nd',hA'⟩:=M.ob;refine kk v H' os' A' M.sm M.al o' nd' hA' (λa ha=>?_) (λa ha=>?_) rv
    ·by_cases z:a∈A
     ·exact .inl z
     ·exact .inr (M.sub a (ku.mpr ⟨ha,by simpa using z⟩))
    ·rcases M.new a ha with z|z
     ·exact .inl (ku.mp z).1
     ·exact .inr z
   split at e
   ·rename_i d' fs'' e1;cases e;exact q' _ _ _ _ _ H os _ _ _ R e1 λv H' os' M rv=>go v H' os' M rv
   ·rename_i ρ' fs'' e1;cases e;exact q' _ _ _ _ _ H os _ _ _ R e1 λσ' H' os' R'=>go _ H' os' R'.end .non
   ·cases e
  ·cases e
end
theorem za7:∀(us:LVl)(k:Nat),(∀(i:Nat)(v:Value),us[i]?=some v->∃t,v=Value.int (0+((k+i:Nat):Int)) t)->Vals ((List.range' k us.length).map λi:Nat=>V.int (0+i)) us
 |[],_,_=>.nil
 |u::us,k,h=>by
  have⟨t,e⟩:=h 0 u rfl;exact .cons ⟨t,by rw[e];simp⟩ (za7 us (k+1) λi v hv=>by
   obtain⟨t,e⟩:=h (i+1) v (by simpa using hv);exact⟨t,by rw[e,show k+(i+1)=k+1+i by omega]⟩)
def zhF{us:LVl}{n:Nat}(hn:us.length=n)(h:∀(i:Nat)(v:Value),us[i]?=some v->∃t,v=Value.int (0+(i:Int)) t):Vals ((List.range n).map λi:Nat=>V.int (0+i)) us:=by
 rw[<-hn,List.range_eq_range'];exact za7 us 0 λi v hv=>by
  have⟨t,e⟩:=h i v hv;exact⟨t,by rw[e,nr]⟩
theorem zcB{K:FRx}{G:Hp}:∀l:List Nat,Reps K G (l.map λi:Nat=>V.int (0+i)) (l.map λi:Nat=>PyData.int (0+i))
 |[]=>.nil
 |_::l=>.cons (.int _) (zcB l)
section
variable{X:Cx}
def ziF:vF X (.type "range") (λxs H Q=>∃j:Int,xs=[.int j]/\∀l,H l=none->Q (.ref l) (upd H l (.rng 0 j))):=by
 intro pins s σ H xs us Q I r h;obtain⟨j,rfl,q⟩:=h;obtain⟨u,rfl,t,rfl⟩:=vals1 r;refine call_range_1 ⟨.ref s.heap.objs.size,_,I.laid (o:=.rng 0 j) (t':=s.toks+1+1) (λc o e=>qm _ e) (qf _) ⟨_,_,_,qJ _ rfl⟩,rfl,q _ (I.hok.fresh (qf _))⟩
def zaq(hc:X.calm=true):vF X (.type "list") (λxs H Q=>∃p,∃j:Int,xs=[.ref p]/\H p=some (.rng 0 j)/\-(2 ^ 62)<=j/\j<=16777216/\∀l,H l=none->Q (.ref l) (upd H l (.lst ((List.range j.toNat).map λi:Nat=>V.int (0+i))))):=by
 intro pins s σ H xs us Q I r h;obtain⟨p,j,rfl,hp,h1,h2,q⟩:=h;obtain⟨u,rfl,ru⟩:=vals1 r;cases ru;obtain⟨t,u,v,hR⟩:vv X.prog X.w H s.heap p (.rng 0 j):=I.hok p _ hp;refine call_list_range (I.ok.hd hc) hR (small_one (by omega) (by omega) h1 (by omega)) (n:=j.toNat) (by rw[rangeSize_one];split<;>omega) (by omega) λh' tk acc' c' hk hS' hacc=>?_
 refine⟨.ref s.heap.objs.size,_,I.laid (o:=.lst ((List.range j.toNat).map λi:Nat=>V.int (0+i))) (t':=tk) hk (qf _) ⟨?_,acc'.toList,c',?_,?_⟩,rfl,q _ (I.hok.fresh (qf _))⟩
 ·rw[qe,qu]
  have:=WY;show j.toNat<=16777216
  omega
 ·exact zhF (by rw[px];exact hacc.1) λi v hv=>by
   obtain⟨t,e⟩:=hacc.2 i v (by simpa using hv);exact⟨t,by rw[e];simp⟩
 ·simpa using hS'
def zkG(g:RLx):RLx:=λρ=>match g ρ with
 |some [.int j]=>if -(2 ^ 62)<=j/\j<=16777216 then some (jT 0 j.toNat) else none
 |_=>none
def zlo{a:Expr}{p p' pos pos':Pos}{g:RLx}(hc:X.calm=true)(hg:Gl X "range")(hm:X.mg "range"=none)(hg2:Gl X "list")(hm2:X.mg "list"=none)(ha:FA X [a] g)(hs:SEx X a []:=by rfl)(hp1:(backTo pos' (starEach [] X.env)).any (·.1)=false:=by rfl)(hs2:starEach [(.Call (.Name "range" p') [a] [] pos':Expr)] X.env=(false,eval (.Call (.Name "range" p') [a] [] pos') X.env)::starEach [] X.env:=by rfl)(hp2:(backTo pos (starEach [] X.env)).any (·.1)=false:=by rfl):FL X (.Call (.Name "list" p) [.Call (.Name "range" p') [a] [] pos'] [] pos) (zkG g):=by
 have⟨t,pa,qa⟩:=ha;refine⟨_,JV (zaq hc) hg2 hm2 wq (yJ (JV ziF hg hm boot_range pa (by decide) (by decide) hs hp1) xP hs2) (by decide) (by decide) hs2 hp2,λσ H os ρ ds Q R e k=>?_⟩;unfold zkG at e;split at e
 ·rename_i j e1;split at e
  ·rename_i hj;cases e;refine qa σ H os ρ _ _ R e1 λvs H1 s1 rv=>?_
   cases rv with
   |cons h r=>
    cases r;cases h;refine⟨j,rfl,λl hl=>⟨l,j,rfl,zH,hj.1,hj.2,λl2 hl2=>?_⟩⟩;have s2:Same H1 (upd H1 l (.rng 0 j)):=ya hl _;have s3:=ya hl2 (.lst ((List.range j.toNat).map λi:Nat=>V.int (0+i)))
    exact k l2 _ _ (s1.free (s2.free hl2)) (s1.trans (s2.trans s3)) zH (zcB _)
  ·cases e
 ·cases e
end
def lF(h:LLx):LPx:=λds=>(h ds).map PyData.list
def x3.df{P:Program}{w:World}{K:FRx}{mg:Str->Option Value}{base:Heap}{k:Nat}{x:Str}{ps:LSr}{h:LLx}(D:x3 P w K mg base k x ps h):yA P w K mg base k x ps (lF h):=by
 have⟨f,fd,F,r⟩:=D;refine⟨f,fd,F.imp λvs H Q E q=>?_,r⟩;have⟨os,ds,r,al,rv,e,kk⟩:=q;have⟨es,e1,e2⟩:=map_some e;subst e2;refine⟨os,ds,es,al,rv,e1,λa xs H' n s hx r=>kk _ H' s (.lst (SqL.of ?_) (r.same (xh λb hb=>qA _ hb)))⟩;rw[zw (al.new n)];exact hx
def zkp(X:Cx)(C:AdX)(ℓ:Nat)(sts:List Stmt)(f:OFx):Prop:=∃t:TS,PSs X sts t/\∀(H0:Hp)(os0:LAd)(p:AdX)(D:Ends)(σ:St)(H:Hp)(os:LAd)(ρ:Ro)(fs:Ob)(ρ':Ro)(fs':Ob),MSt X.K C ℓ H0 os0 p H os σ ρ fs->f ρ fs=some (.nx ρ' fs')->(∀H' os',zhX X.K C H0 os0 p H' os' fs'->D.rt (.ref p) H')->t D σ H
section
variable{X:Cx}{C:AdX}{ℓ:Nat}{st:Stmt}{rest:List Stmt}{f g:OFx}{pos p0:Pos}{x:Str}
def ziK(hN:X.N[ℓ]?=some x:=by rfl)(hv:Vis X.env.scope x:=by trivial)(hd:NDx x:=by decide)(hcd:NCx x:=by decide):zkp X C ℓ [.Return (some (.Name x p0)) pos] os0:=by
 refine⟨_,v9 (Vc (yv (i:=ℓ) hN hv hd hcd)) zcj,λH0 os0 p D σ H os ρ fs ρ' fs' R e k=>?_⟩;cases e;exact⟨_,R.self,k H os R.end⟩
def zgj(h:OS X C ℓ st f)(h2:zkp X C ℓ rest g):zkp X C ℓ (st::rest) (osq f g):=by
 have⟨t,p,q⟩:=h;have⟨t2,p2,q2⟩:=h2;refine⟨_,v9 p p2,λH0 os0 p D σ H os ρ fs ρ' fs' R e k=>?_⟩;unfold osq at e;split at e
 ·rename_i ρ1 fs1 e1;exact q H0 os0 p { D with nx:=t2 D } σ H os ρ fs _ R e1 λσ' H' os' R'=>q2 H0 os0 p D σ' H' os' ρ1 fs1 ρ' fs' R' e k
 ·rename_i hn;exact absurd e (hn ρ' fs')
def zj7:OS X C ℓ (.Pass pos) os0:=⟨_,zji,λ_ _ _ _ _ _ _ _ _ _ R q k=>by cases q;exact k _ _ _ R⟩
end
def zhm(f:Ro->Ob->Option (PyData×Ob)):Ro->Ob->Option (Bool×Ob):=λρ fs=>(f ρ fs).map λr=>(!isNone r.1,r.2)
section
variable{X:Cx}{C:AdX}{ℓ:Nat}{e:Expr}{pos cp:Pos}{j:_}
def ziH{f:Ro->Ob->Option (PyData×Ob)}(h:GM X C ℓ e f)(hm:behindInMarks .IsNot (.Constant .none j cp)=false:=by rfl):GTM X C ℓ (.Compare e [.IsNot] [.Constant .none j cp] pos) (zhm f):=by
 have⟨t,p,q⟩:=h;refine⟨_,zbx YG p zi5 hm,λH0 os0 p σ H os ρ fs b fs' Q R e k=>?_⟩;have⟨r,e1,e2⟩:=map_some e;cases e2;refine q H0 os0 p σ H os ρ fs r.1 r.2 _ R e1 λv H' os' R' rv=>?_
 exact Vw v .non H' os' r.1 .none (.bool (!isNone r.1)) (λx H'=>∃k,x=V.bl k/\Q k H') R'.sr.rel.al (.inl rv) (.inl .non) rfl λv2 H2 s2 r2=>by
  cases r2;exact⟨_,rfl,k H2 os' (R'.same s2)⟩
end
def spN(K:FRx)(C:AdX)(h:List PyData->Option Ob):Sp:=λvs H Q _=>∃os ds gs,Al H os/\Reps K (offs H os) vs ds/\h ds=some gs/\
 ∀q H' os' B,Left H os [] H' os'->FOk K H' os' (.ref q) (.ob C gs) B->B.Nodup->(∀a∈B,a∈os'/\H a=none)->Q (.ref q) H'
abbrev zgt(P:Program)(w:World)(K:FRx)(mg:Str->Option Value)(base:Heap)(k:Nat)(C:AdX)(x:Str)(ps:LSr)(f:List PyData->Option Ob):Prop:=Def P w K mg base CX0 k x ps (spN K C f)
def zjl(i:Nat)(f:Ro->Option Ob)(g:OFx):Ro->Option Ob:=λρ=>(f ρ).bind λgs=>if i<ρ.length then (match g (ρ.set i .no) gs with |some (.nx _ gs')=>some gs'|_=>none) else none
def fnN(n m:Nat)(b:Ro->Option Ob)(ds:LPd):Option Ob:=if ds.length=m then b (ds.map Sl.pu++List.replicate (n - m) .no) else none
section
variable{P:Program}{w:World}{K:FRx}{mg:Str->Option Value}{base:Heap}{C:AdX}
def zgt.mk{x y:Str}{st:Stmt}{N ps:LSr}{k m i:Nat}{e:Expr}{rest:List Stmt}{pos pos':Pos}{f:Ro->Option Ob}{g:OFx}(h:HasDef K mg x st)(S:zr N ps (zc st))(hb:∀(kV doc pm:Value)(an:Option Addr)(cdv ct:Value)(us:LVl),us.length=ps.length->bindArgs (W.fnOf x x (jm st) (yK st) (zc st) .none kV doc pm an cdv ct) ⟨us,[]⟩=pure (ps.zip us))(hm:ps.length=m)(hbd:yK st=.Assign [.Name y pos'] e pos::rest)(hi:N[i]?=some y)(hx:Loc (zc st) y)(hbody:∀(f':AdX)(cdv:Value)(A:Around)(outer:List Env)(s:ShX)(H:Hp)(E:XK),Room k (A.deeper (envOfC x (zc st) s.heap.objs.size f' cdv))->
   FN (Ug CX0 P w K mg base N x (zc st) f' cdv A outer s H E).nox C e f/\zkp (Ug CX0 P w K mg base N x (zc st) f' cdv A outer s H E).nox C i rest g/\swapsWith e (some (.Name y pos')) pos.line (Ug CX0 P w K mg base N x (zc st) f' cdv A outer s H E).env=pure false):zgt P w K mg base (k+1) C x ps (fnN N.length m (zjl i f g)):=by
 refine Def.mk h S hb (λvs H Q E q=>?_) (λf' cdv A outer s H vs Q E hr q=>?_)
 ·have⟨os,ds,r,_,hr,e,_⟩:=q;unfold fnN at e;split at e
  ·rename_i hl;rw[hr.length,hl,hm]
  ·cases e
 ·have⟨⟨t,p,q1⟩,⟨t2,p2,q2⟩,hsw⟩:=hbody f' cdv A outer s H E hr;have⟨os,ds,r,al,hr,e,kk⟩:=q;unfold fnN at e;split at e
  ·rename_i hl;have R:=J9 (N:=N) al hr m hl;rw[hbd];refine⟨_,v9 (wW S.nd hi hx p hsw (.inl rfl)) p2,?_⟩;have⟨gs,e1,e2⟩:=bind_some e
   split at e2
   ·rename_i hlt;split at e2
    ·rename_i ρ' gs' e3;cases e2;refine q1 _ H os _ gs _ R.rel e1 λa H' os' B L o nd hB=>?_
     have sr':=(R.left L (λb hb=>by cases hb) λj c q m b hb=>by cases hb).zhx i (some (.ref a));refine q2 H os a _ _ H' os' _ gs _ _ ⟨sr',kG (by rw[R.rel.len];exact hlt),B,o,nd,λb hb=>⟨(hB b hb).1,R.sm.free (hB b hb).2⟩,λj c q m b hb w=>?_⟩ e3 λH2 os2 M=>?_
     ·rcases ym q with⟨_,_,z⟩|⟨hj,q⟩
      ·rw[<-z] at m;cases m
      ·rw[qH hj] at w;have⟨b',o',w1,w2,w3,_⟩:=R.rel.mu j c q m;rw[w] at w1;cases w1;rw[(hB b hb).2] at w3;cases w3
     ·have⟨A2,o2,nd2,hA2⟩:=M.ob;have on:∀b,offs H [] b=H b:=λb=>zw (by simp)
      exact kk a H2 os2 A2 ⟨λb o z=>M.sm b o (by rw[on] at z;exact z),M.al,λb hb=>.inr (M.sub b hb),λb hb=>by rw[on];exact M.new b hb⟩ o2 nd2 hA2
    ·cases e2
   ·cases e2
  ·cases e
end
section
variable{X:Cx}{C C2:AdX}{e:Expr}{es:List Expr}{ga:RLx}{p pos:Pos}{x y:Str}{k k':Nat}{ps:LSr}{f:Ro->Option Ob}
def zfP(h:List PyData->Option Ob)(ga:RLx):Ro->Option Ob:=λρ=>(ga ρ).bind h
def zjZ{h:List PyData->Option Ob}(D:zgt X.prog X.w X.K X.mg X.base k C x ps h)(hr:Room k' X.A)(hg:Gl X x)(ha:FA X (e::es) ga)(hk:k<=k':=by decide)(hdb:NDx x:=by decide)(he:SEx X e es:=by rfl)(hpl:PLx X pos es:=by rfl):FN X C (.Call (.Name x p) (e::es) [] pos) (zfP h ga):=by
 have⟨t,pa,qa⟩:=ha;refine⟨_,WU D hr hg Jn pa hk hdb he hpl,λσ H os ρ gs Q R q kk=>?_⟩;have⟨ds,e1,e2⟩:=bind_some q;refine qa σ H os ρ ds _ R e1 λvs H' s rv=>?_
 rw[kj];have on:∀(H:Hp) b,offs H [] b=H b:=λH b=>zw (by simp)
 refine⟨os,ds,gs,R.al.same s,rv,e2,λq H2 os2 B L o nd hB=>kk q H2 os2 B ⟨λb o z=>L.sm b o ?_,L.al,L.sub,λb hb=>?_⟩ o nd λa ha=>⟨(hB a ha).1,s.free (hB a ha).2⟩⟩
 ·rw[on] at z ⊢;exact s b o z
 ·rcases L.new b hb with w|w
  ·exact .inl w
  ·rw[on] at w ⊢;exact .inr (s.free w)
def zhi(y:Str)(C2:AdX)(f:Ro->Option Ob):Ro->Option Ob:=λρ=>(f ρ).bind λgs=>match fld y gs with |some (.ob C' hs)=>if C'=C2 then some hs else none|_=>none
def zmk(cl:Cls X.K C)(na:zI X.K C y)(h:FN X C e f)(hb:attributeBase e y X.env (eval e X.env)=eval e X.env:=by rfl):FN X C2 (.Attribute e y pos) (zhi y C2 f):=by
 have⟨t,pe,q⟩:=h;refine⟨_,vb pe hb,λσ H os ρ gs Q R e k=>?_⟩;have⟨hs,e1,e2⟩:=bind_some e;split at e2
 ·rename_i C' is ef;split at e2
  ·rename_i hC;subst hC;cases e2;refine q σ H os ρ hs _ R e1 λa H' os' B L o nd hB=>?_
   cases o with
   |ob hp r=>
    obtain⟨v,D,l,o2,ndD,hD⟩:=r.zf1 (ke.mp nd).2 ef;cases o2 with
    |ob hp2 r2=>exact⟨_,_,_,_,_,rfl,hp,cl,na,l,k _ H' os' _ L (.ob hp2 r2) ndD λb hb=>hB b (.tail _ (hD b hb))⟩
  ·cases e2
 ·cases e2
end
def intsOf:List PyData->Option (List Int)
 |[]=>some []
 | .int i::r=>(intsOf r).map (i::·)
 |_=>none
theorem zbl{K:FRx}{G:Hp}:∀{ds:LPd} {xs:List V} {ns:List Int},Reps K G xs ds->intsOf ds=some ns->xs=ns.map V.int
 |[],xs,ns,r,h=>by cases r;cases h;rfl
 | .int i::ds,xs,ns,r,h=>by
  cases r with
  |cons a b=>
   have⟨ns',e1,e2⟩:=map_some h;subst e2;cases a;rw[zbl b e1];rfl
theorem VT{K:FRx}{G:Hp}:∀ns:List Int,Reps K G (ns.map V.int) (ns.map PyData.int)
 |[]=>.nil
 |_::l=>.cons (.int _) (VT l)
def gsrt(f:OPx):OLx:=λρ fs=>match f ρ fs with
 |some (.list ds)=>(intsOf ds).bind λns=>if ns.length<64 then some ((isort ns).map PyData.int) else none
 |_=>none
section
variable{X:Cx}{C:AdX}{ℓ:Nat}{e:Expr}{f:OPx}{p pos:Pos}
def zgG(hg:Gl X "sorted")(hm:X.mg "sorted"=none)(ha:GB X C ℓ e f)(he:SEx X e []:=by rfl)(hpl:(backTo pos (starEach [] X.env)).any (·.1)=false:=by rfl):GL X C ℓ (.Call (.Name "sorted" p) [e] [] pos) (gsrt f):=by
 have⟨t,pa,qa⟩:=ha;refine⟨_,V7 zc2 hg hm zgm (yJ pa xP he) (by decide) (by decide) he hpl,λσ H os ρ fs c Q R q k=>?_⟩;unfold gsrt at q;split at q
 ·rename_i ds e1;have⟨ns,e2,q⟩:=bind_some q;split at q
  ·rename_i hl;cases q;refine qa σ H os ρ fs _ _ R e1 λv H1 s1 r1=>?_
   obtain⟨a,xs,rfl,hS,r⟩:=r1.lst;have ex:=zbl r e2;subst ex;exact⟨a,ns,rfl,hS,hl,λq hq=>k q _ _ (s1.free hq) (s1.trans (ya hq _)) zH (jV hq (VT _))⟩
  ·cases q
 ·cases q
end
def zjH(f:RLx)(g:OPx):OLx:=λρ fs=>(f ρ).bind λx=>match g ρ fs with
 |some (.int k)=>if -(2 ^ 63)<=k/\k<2 ^ 63/\x.length*k.toNat<=16777216 then some (List.replicate k.toNat x).flatten else none
 |_=>none
section
variable{X:Cx}{C:AdX}{ℓ:Nat}{a b e:Expr}{p1 pos:Pos}
def zln{f:RLx}{g:OPx}(ha:FK X a f)(hb:GE X C ℓ b g):GL X C ℓ (.BinOp a .Mult b pos) (zjH f g):=by
 have⟨ta,pa,qa⟩:=ha;have⟨tb,pb,qb⟩:=hb;refine⟨_,zbh zik pa pb,λσ H os ρ fs c Q R q k=>?_⟩;have⟨x,e1,q⟩:=bind_some q;split at q
 ·rename_i n e2;split at q
  ·rename_i hl;cases q;refine qa σ H os ρ x _ R.rel e1 λa xs H1 s1 h1 r1=>qb σ H1 os ρ fs _ _ (R.same s1) e2 λv H2 s2 r2=>?_
   cases r2;have l1:=r1.length;refine⟨a,n,xs,rfl,rfl,s2 _ _ h1,hl.1,hl.2.1,by rw[l1];exact hl.2.2,λp hp=>?_⟩;exact k p _ _ (s1.free (s2.free hp)) ((s1.trans s2).trans (ya hp _)) zH (jV hp (Vl (r1.same (zm s2 os)) _))
  ·cases q
 ·cases q
end
def GIA(X:Cx)(C:AdX)(ℓ:Nat)(tg iter:Expr)(f:Ob->Option (List PyData)):Prop:=∃wi:TI,PI X tg iter wi/\∀(σ:St)(H:Hp)(os:LAd)(p:AdX)(A:LAd)(fs:Ob)(ds:LPd)(R:It->Hp->Prop),σ[ℓ]?=some (some (.ref p))->FOk X.K H os (.ref p) (.ob C fs) A->f fs=some ds->
  (∀J,Walks X.K (λb=>if b∈A then H b else none) (offs H os) J ds->R J H)->wi σ H R
def gzf(x y:Str):Ob->Option (List PyData):=λfs=>match fld x fs,fld y fs with
 |some (.ow xs),some (.ow ys)=>some (Jr xs ys)
 |_,_=>none
def znw(i:Nat)(gi g:OPx):Ro->Ob->Option Ro:=λρ fs=>(gk i ρ).bind λds=>(g ρ fs).bind λd=>match gi ρ fs with
 |some (.int k)=>(ixN ds.length k).bind λj=>some (ρ.set i (.ow (ds.set j d)))
 |_=>none
section
variable{X:Cx}{C:AdX}{ℓ:Nat}{a b e:Expr}{p1 pos:Pos}
def zkv{x f1 f2:Str}{q1 q2 p pos1 pos2 tp:Pos}{tes:List Expr}{kk:Nat}(cl:Cls X.K C)(na1:zI X.K C f1)(na2:zI X.K C f2)(hg:Gl X "zip")(hm:X.mg "zip"=none)(hN:X.N[ℓ]?=some x:=by rfl)(hv:Vis X.env.scope x:=by trivial)(hd:NDx x:=by decide)(hcd:NCx x:=by decide)(hb1:ABx X (.Name x q1) f1:=by rfl)(hb2:ABx X (.Name x q2) f2:=by rfl)(hs:starEach [.Attribute (.Name x q1) f1 pos1,.Attribute (.Name x q2) f2 pos2] X.env=[(false,eval (.Attribute (.Name x q1) f1 pos1) X.env),(false,eval (.Attribute (.Name x q2) f2 pos2) X.env)]:=by rfl)(hs2:starEach [.Attribute (.Name x q2) f2 pos2] X.env=[(false,eval (.Attribute (.Name x q2) f2 pos2) X.env)]:=by rfl)(hs1:starEach [.Attribute (.Name x q1) f1 pos1,.Attribute (.Name x q2) f2 pos2] X.env=(false,eval (.Attribute (.Name x q1) f1 pos1) X.env)::starEach [.Attribute (.Name x q2) f2 pos2] X.env:=by rfl)(hs3:starEach [.Attribute (.Name x q2) f2 pos2] X.env=(false,eval (.Attribute (.Name x q2) f2 pos2) X.env)::starEach [] X.env:=by rfl):GIA X C ℓ (.Tuple tes kk tp) (.Call (.Name "zip" p) [.Attribute (.Name x q1) f1 pos1,.Attribute (.Name x q2) f2 pos2] [] pos) (gzf f1 f2):=by
 refine⟨_,zeD false false hg hm (yJ (vb (yv (i:=ℓ) hN hv hd hcd) hb1) (yJ (vb (yv (i:=ℓ) hN hv hd hcd) hb2) xP hs3) hs1) hs hs2,λσ H os p A fs ds R h1 h2 e k=>?_⟩;unfold gzf at e;split at e
 ·rename_i xs ys ex ey;cases e;cases h2 with
  |ob hp r=>
   have⟨v,B,l,o,hB⟩:=r.look ex;have⟨v',B',l',o',hB'⟩:=r.look ey;cases o with
   |ow ha rv=>
    cases o' with
    |ow ha' rv'=>
     refine⟨_,h1,_,_,_,_,_,rfl,hp,cl,na1,l,_,h1,_,_,_,_,_,rfl,hp,cl,na2,l',_,_,rfl,⟨_,SqL.of ha⟩,⟨_,SqL.of ha'⟩,k _ ?_⟩;refine WO (SqL.of ?_) (SqL.of ?_) rv rv'
     ·rw[qj (.tail _ (hB _ (.head _)))];exact ha
     ·rw[qj (.tail _ (hB' _ (.head _)))];exact ha'
 ·cases e
end
structure RSt(K:FRx)(C:AdX)(ℓ:Nat)(H0:Hp)(os0:LAd)(p:AdX)(A:LAd)(fs:Ob)(H:Hp)(os:LAd)(σ:St)(ρ:Ro):Prop where
 sr:SRo K H0 os0 H os σ ρ
 self:σ[ℓ]?=some (some (.ref p))
 ob:FOk K H0 os0 (.ref p) (.ob C fs) A
 oA:∀a∈A,a∈os0
 gs:Same (offs H0 os0) (offs H os)
def zcI(K:FRx)(C:AdX)(ℓ:Nat)(H0:Hp)(os0:LAd)(p:AdX)(A:LAd)(fs:Ob)(G:Hp)(D:Ends):Fl->Prop
 | .nx ρ'=>∀σ' H' os',RSt K C ℓ H0 os0 p A fs H' os' σ' ρ'->Same G (offs H' os')->D.nx σ' H'
 | .rt d=>∀v H',Same H0 H'->Rep K (offs H' os0) v d->D.rt v H'
 | .rl ds=>∀a xs H',H0 a=none->Same H0 H'->H' a=some (.lst xs)->Reps K (offs H' (a::os0)) xs ds->D.rt (.ref a) H'
def zcI.mono{K:FRx}{C:AdX}{ℓ:Nat}{H0:Hp}{os0:LAd}{p:AdX}{A:LAd}{fs:Ob}{G G':Hp}{D:Ends}{r:Fl}(k:zcI K C ℓ H0 os0 p A fs G D r)(s:Same G G'):zcI K C ℓ H0 os0 p A fs G' D r:=by
 cases r with
 |nx ρ=>exact λσ' H' os' R z=>k σ' H' os' R (s.trans z)
 |rt d=>exact k
 |rl d=>exact k
def ORd(X:Cx)(C:AdX)(ℓ:Nat)(st:Stmt)(f:Ro->Ob->Option Fl):Prop:=∃t:TS,PS X st t/\∀(H0:Hp)(os0:LAd)(p:AdX)(A:LAd)(D:Ends)(σ:St)(H:Hp)(os:LAd)(ρ:Ro)(fs:Ob)(r:Fl),RSt X.K C ℓ H0 os0 p A fs H os σ ρ->f ρ fs=some r->zcI X.K C ℓ H0 os0 p A fs (offs H os) D r->t D σ H
def ORs(X:Cx)(C:AdX)(ℓ:Nat)(sts:List Stmt)(f:Ro->Ob->Option Fl):Prop:=∃t:TS,PSs X sts t/\∀(H0:Hp)(os0:LAd)(p:AdX)(A:LAd)(D:Ends)(σ:St)(H:Hp)(os:LAd)(ρ:Ro)(fs:Ob)(r:Fl),RSt X.K C ℓ H0 os0 p A fs H os σ ρ->f ρ fs=some r->zcI X.K C ℓ H0 os0 p A fs (offs H os) D r->t D σ H
section
variable{K:FRx}{C:AdX}{ℓ:Nat}{H0 H H':Hp}{os0 os:LAd}{p:AdX}{A:LAd}{σ:St}{ρ:Ro}{fs:Ob}
def RSt.stay(h:RSt K C ℓ H0 os0 p A fs H os σ ρ):∀a∈A,H a=H0 a:=λa ha=>by
 have⟨o,q⟩:=h.ob.has a ha;rw[q];exact h.sr.sm a o q
def RSt.obH(h:RSt K C ℓ H0 os0 p A fs H os σ ρ):FOk K H os (.ref p) (.ob C fs) A:=h.ob.keep h.gs h.stay
def RSt.w8(h:RSt K C ℓ H0 os0 p A fs H os σ ρ):vC K C ℓ H os σ ρ fs:=⟨h.sr.rel,p,A,h.self,h.obH,λa ha=>h.sr.sub a (h.oA a ha)⟩
def RSt.same(h:RSt K C ℓ H0 os0 p A fs H os σ ρ)(e:Same H H'):RSt K C ℓ H0 os0 p A fs H' os σ ρ:=⟨h.sr.same e,h.self,h.ob,h.oA,h.gs.trans (zm e os)⟩
def RSt.set(h:RSt K C ℓ H0 os0 p A fs H os σ ρ){i:Nat}{v:V}{d:PdX}(hi:i≠ℓ)(r:Rep K (offs H os) v d):RSt K C ℓ H0 os0 p A fs H os (σ.set i (some v)) (ρ.set i (.pu d)):=⟨h.sr.set r,by rw[qH hi];exact h.self,h.ob,h.oA,h.gs⟩
def RSt.Yq(h:RSt K C ℓ H0 os0 p A fs H os σ ρ){i:Nat}{a:AdX}{xs:List V}{ds:LPd}(hi:i≠ℓ)(n:H a=none)(s:Same H H')(hx:H' a=some (.lst xs))(r:Reps K (offs H' (a::os)) xs ds):RSt K C ℓ H0 os0 p A fs H' (a::os) (σ.set i (some (.ref a))) (ρ.set i (.ow ds)):=⟨h.sr.Yq n s hx r,by rw[qH hi];exact h.self,h.ob,h.oA,h.gs.trans (jo n s)⟩
def RSt.chg(h:RSt K C ℓ H0 os0 p A fs H os σ ρ){i:Nat}{a:AdX}{ys:List V}{ds es:LPd}(q:ρ[i]?=some (.ow ds))(e:σ[i]?=some (some (.ref a)))(r:Reps K (offs H os) ys es):RSt K C ℓ H0 os0 p A fs (upd H a (.lst ys)) os σ (ρ.set i (.ow es)):=by
 have⟨a',xs,e',ha,hx,_⟩:=h.sr.rel.ow i ds q;rw[e] at e';cases e';exact⟨h.sr.chg q e r,h.self,h.ob,h.oA,by rw[yL ha];exact h.gs⟩
def RSt.sets{is:LNt}{σ':St}{ρ':Ro}(s:Sets K (offs H os) is σ ρ σ' ρ')(hi:∀i∈is,i≠ℓ)(h:RSt K C ℓ H0 os0 p A fs H os σ ρ):RSt K C ℓ H0 os0 p A fs H os σ' ρ':=by
 induction s with
 |nil=>exact h
 |set r _ ih=>exact ih (λi hm=>hi i (.tail _ hm)) (h.set (hi _ (.head _)) r)
end
section
variable{X:Cx}{C:AdX}{ℓ:Nat}{st:Stmt}{rest:List Stmt}{f g:Ro->Ob->Option Fl}{a b e:Expr}{p1 pos:Pos}
def rsq(f g:Ro->Ob->Option Fl):Ro->Ob->Option Fl:=λρ fs=>match f ρ fs with |some (.nx ρ')=>g ρ' fs|r=>r
def zfp(h:ORd X C ℓ st f):ORs X C ℓ [st] f:=by
 have⟨t,p,q⟩:=h;exact⟨t,zb5 p,q⟩
def ZF(h:ORd X C ℓ st f)(h2:ORs X C ℓ rest g):ORs X C ℓ (st::rest) (rsq f g):=by
 have⟨t,p,q⟩:=h;have⟨t2,p2,q2⟩:=h2;refine⟨_,v9 p p2,λH0 os0 p A D σ H os ρ fs r R e k=>?_⟩;unfold rsq at e;split at e
 ·rename_i ρ' e1;exact q H0 os0 p A { D with nx:=t2 D } σ H os ρ fs _ R e1 λσ' H' os' R' s=>q2 H0 os0 p A D σ' H' os' ρ' fs r R' e (k.mono s)
 ·cases r with
  |nx ρ'=>rename_i hn;exact absurd e (hn ρ')
  |rt d=>exact q H0 os0 p A { D with nx:=t2 D } σ H os ρ fs _ R e k
  |rl d=>exact q H0 os0 p A { D with nx:=t2 D } σ H os ρ fs _ R e k
def zfU(i:Nat)(f:OLx):Ro->Ob->Option Fl:=λρ fs=>(f ρ fs).bind λd=>some (.nx (ρ.set i (.ow d)))
def zkc(i:Nat){x:Str}{pos':Pos}{f:OLx}(hN:X.N.Nodup)(he:GL X C ℓ e f)(h0:i≠ℓ:=by decide)(hi:X.N[i]?=some x:=by rfl)(hx:Loc X.env.scope x:=by trivial)(hs:swapsWith e (some (.Name x pos')) pos.line X.env=pure false:=by rfl)(hf:FNx X x:=by trivial):ORd X C ℓ (.Assign [.Name x pos'] e pos) (zfU i f):=by
 have⟨t,p,q⟩:=he;refine⟨_,wW hN hi hx p hs hf,λH0 os0 p A D σ H os ρ fs r R e k=>?_⟩;have⟨d,e1,e2⟩:=bind_some e;cases e2;exact q σ H os ρ fs d _ R.w8 e1 λa xs H' n s hx rv=>k _ _ _ (R.Yq h0 n s hx rv) (jo n s)
def rsi(i:Nat)(gi g:OPx):Ro->Ob->Option Fl:=λρ fs=>(znw i gi g ρ fs).bind λρ'=>some (.nx ρ')
def zfF(i:Nat){x:Str}{ie:Expr}{gi g:OPx}{tpos:Pos}(hi:GE X C ℓ ie gi)(he:GE X C ℓ e g)(hN:X.N[i]?=some x:=by rfl)(hv:Vis X.env.scope x:=by trivial)(hd:NDx x:=by decide)(hcd:NCx x:=by decide)(ha:∀v,assign (.Subscript (.Name x p1) ie tpos) X.env v=(do
   let ov <-holding [v] (eval (.Name x p1) X.env)
   let iv <-holding [v,ov] (eval ie X.env)
   standAt tpos
   holding [v,ov,iv] (setItem ov iv v)
   release [v,ov,iv] []):=by intro _;rfl)(hs:swapsWithSole [.Subscript (.Name x p1) ie tpos] e pos.line X.env=pure false:=by rfl)(hw:swappedStores [.Subscript (.Name x p1) ie tpos] e X.env=pure none:=by rfl)(h1:(assignEach [.Subscript (.Name x p1) ie tpos] X.env).map (·.2)=[assign (.Subscript (.Name x p1) ie tpos) X.env]:=by rfl):ORd X C ℓ (.Assign [.Subscript (.Name x p1) ie tpos] e pos) (rsi i gi g):=by
 have⟨t,p,q⟩:=he;have⟨ti,pi,qi⟩:=hi;refine⟨_,zhy p (zhq (yv hN hv hd hcd) pi set_list ha) hs hw h1,λH0 os0 p A D σ H os ρ fs r R e k=>?_⟩;have⟨ρ2,e',er⟩:=bind_some e;cases er;clear e;have⟨ds,e1,e⟩:=bind_some e';have⟨d,e2,e⟩:=bind_some e;split at e
 ·rename_i n e3;have⟨j,e4,e⟩:=bind_some e;cases e;have g:=wJ e1;have⟨a,xs,h1,h2,h3,h4⟩:=R.sr.rel.ow i ds g
  refine q σ H os ρ fs d _ R.w8 e2 λv H' s rv=>⟨_,h1,qi σ H' os ρ fs _ _ (R.w8.same s) e3 λu H2 s2 ru=>?_⟩
  cases ru;have s3:=s.trans s2;refine⟨a,xs,n,j,rfl,rfl,s3 _ _ h3,by rw[h4.length];exact e4,?_⟩;exact k _ _ os ((R.same s3).chg g h1 (YX (rv.same (zm s2 os)) j (h4.same (zm s3 os)))) (by rw[yL h2];exact zm s3 os)
 ·cases e
def zkC(i:Nat){x:Str}(hN:X.N[i]?=some x:=by rfl)(hv:Vis X.env.scope x:=by trivial)(hd:NDx x:=by decide)(hcd:NCx x:=by decide):ORd X C ℓ (.Return (some (.Name x p1)) pos) (λρ _=>Uh (gk i) ρ):=by
 refine⟨_,Vc (yv hN hv hd hcd),λH0 os0 p A D σ H os ρ fs r R e k=>?_⟩;have⟨ds,e1,e2⟩:=bind_some e;cases e2;have q:=wJ e1;have⟨a,xs,e,ha,hx,r⟩:=R.sr.rel.ow i ds q
 refine⟨_,e,k a xs H (R.sr.own i _ q rfl a e) R.sr.sm hx (r.same (xh λb hb=>?_))⟩;rcases qx.mp hb with z|z
 ·exact z▸ha
 ·exact R.sr.sub b z
def rF(bd:PyData->Ro->Option Ro)(b:Ro->Ob->Option Fl)(fs:Ob):List PyData->Ro->Option Ro
 |[],ρ=>some ρ
 |d::ds,ρ=>(bd d ρ).bind λρ1=>match b ρ1 fs with |some (.nx ρ2)=>rF bd b fs ds ρ2|_=>none
def rfk(fi:Ob->Option (List PyData))(bd:PyData->Ro->Option Ro)(b:Ro->Ob->Option Fl):Ro->Ob->Option Fl:=λρ fs=>(fi fs).bind λds=>(rF bd b fs ds ρ).bind λρ'=>some (.nx ρ')
def zlH{tg iter:Expr}{sts:List Stmt}{fi:Ob->Option (List PyData)}{is:LNt}{bd:PyData->Ro->Option Ro}{fb:Ro->Ob->Option Fl}(hp:PassesOwn (model X.prog X.w) X.A X.env X.xe)(hc:X.calm=true)(hi:GIA X C ℓ tg iter fi)(hg:FG X tg is bd)(hb:ORs X C ℓ sts fb)(his:∀i∈is,i≠ℓ:=by decide)(hs:FSx X iter:=by exact λ_=>rfl):ORd X C ℓ (.For tg iter sts [] pos) (rfk fi bd fb):=by
 have⟨wi,pi,qi⟩:=hi;have⟨tb,pb,qb⟩:=hb;refine⟨_,zd7 hp hc pi hg pb hs,λH0 os0 p A D σ H os ρ fs r R e k=>?_⟩;have⟨ds,e1,e2⟩:=bind_some e;have⟨ρe,e6,e3⟩:=bind_some e2;cases e3;refine qi σ H os p A fs ds _ R.self R.obH e1 λJ W=>?_
 refine⟨λi m σ' H'=>m=ds.length - i/\i<=ds.length/\∃os' ρ',RSt X.K C ℓ H0 os0 p A fs H' os' σ' ρ'/\Same (offs H os) (offs H' os')/\rF bd fb fs (ds.drop i) ρ'=some ρe,
  ⟨ds.length,rfl,kE _,os,ρ,R,Same.refl _,e6⟩,?_⟩
 rintro i m σ' H' ⟨rfl,hi,os',ρ',R',hs',e'⟩;obtain⟨w1,w2⟩:=W H' os' R'.sr.rel.al (λb o q=>by
  dsimp only at q;split at q
  ·rename_i hb;rw[R'.stay b hb,<-R.stay b hb];exact q
  ·cases q) hs'
 by_cases hlt:i<ds.length
 ·obtain⟨d,hd⟩:∃d,ds[i]?=some d:=⟨_,qk hlt⟩;have⟨g1,g2⟩:=w1 i d hd;have ed:ds.drop i=d::ds.drop (i+1):=by
   rw[gN hlt];rw[qk hlt] at hd;cases hd;rfl
  rw[ed] at e';have⟨ρ1,e3,e4⟩:=bind_some e';split at e4
  ·rename_i ρ2 e5;refine .inr ⟨g1,λσ2 H2=>i+1<=ds.length/\∃os' ρ',RSt X.K C ℓ H0 os0 p A fs H2 os' σ2 ρ'/\Same (offs H os) (offs H2 os')/\rF bd fb fs (ds.drop (i+1)) ρ'=some ρe,?_,?_⟩
   ·rintro σ2 H2 ⟨h1,h2⟩;exact⟨ds.length - (i+1),by omega,rfl,h1,h2⟩
   ·intro x H2 hy;have⟨s2,rx⟩:=g2 x H2 hy;refine⟨os',d,ρ',ρ1,rx,e3,λσ2 st=>?_⟩;have R2:RSt X.K C ℓ H0 os0 p A fs H2 os' σ2 ρ1:=RSt.sets st his (R'.same s2);exact qb H0 os0 p A _ σ2 H2 os' ρ1 fs _ R2 e5 λσ3 H3 os3 R3 s4=>⟨hlt,os3,ρ2,R3,(hs'.trans (zm s2 os')).trans s4,e4⟩
  ·cases e4
 ·have e:i=ds.length:=by omega
  subst e;rw[mR] at e';cases e';exact .inl ⟨w2,k _ _ _ R' hs'⟩
end
def znA(K:FRx)(C:AdX)(h:Ob->List PyData->Option PyData):Sp:=λvs H Q _=>∃p us os ds fs d A,vs=.ref p::us/\FOk K H os (.ref p) (.ob C fs) A/\(∀a∈A,a∈os)/\Al H os/\Reps K (offs H os) us ds/\h fs ds=some d/\
 ∀v H',Same H H'->Rep K (offs H' os) v d->Q v H'
def fnR(n m:Nat)(b:Ro->Ob->Option Fl)(fs:Ob)(ds:LPd):Option PyData:=if ds.length=m then (match b (.no::(ds.map Sl.pu++List.replicate (n - (m+1)) .no)) fs with
  |some (.rt d)=>some d
  |some (.rl es)=>some (.list es)
  |_=>none) else none
def zgq(P:Program)(w:World)(K:FRx)(mg:Str->Option Value)(base:Heap)(k:Nat)(C:AdX)(m:Str)(ps:LSr)(h:Ob->List PyData->Option PyData):Prop:=∃f fd,v7 P w K mg base CX0 k f fd ps (znA K C h)/\Binds K fd ps []/\Meth K C m f
section
variable{P:Program}{w:World}{K:FRx}{mg:Str->Option Value}{base:Heap}{C:AdX}{ℓ:Nat}
def zgM{N:LSr}{H:Hp}{os:LAd}{p:AdX}{us:List V}{ds:LPd}{fs:Ob}{A:LAd}(al:Al H os)(r:Reps K (offs H os) us ds)(o:FOk K H os (.ref p) (.ob C fs) A)(hA:∀a∈A,a∈os)(m:Nat)(hm:ds.length=m)(hN:m<N.length):RSt K C 0 H os p A fs H os (start N (.ref p::us)) (.no::(ds.map Sl.pu++List.replicate (N.length - (m+1)) .no)):=by
 have hl:=r.length;have no:∀(i:Nat)(c:Sl),(Sl.no::(ds.map Sl.pu++List.replicate (N.length - (m+1)) .no))[i]?=some c->isM c=true->False:=λi c q m=>by
  cases i with
  |zero=>cases q;cases m
  |succ i=>
   rw[kZ] at q;by_cases hi:i<ds.length
   ·rw[qK (by simpa using hi),qq] at q;have⟨d,_,e2⟩:=map_some q;subst e2;cases m
   ·rw[qz (by simpa using km hi),kz] at q;split at q
    ·cases q;cases m
    ·cases q
 refine⟨⟨⟨λi d q=>?_,λi c q m=>(no i c q m).elim,al,?_⟩,Same.refl H,λa h=>h,λa h=>.inl h,al,λi c q m=>(no i c q m).elim,λi j c c' _ q _ m=>(no i c q m).elim⟩,rfl,o,hA,Same.refl _⟩
 ·cases i with
  |zero=>cases q
  |succ i=>
   rw[kZ] at q;unfold start;by_cases hi:i<ds.length
   ·rw[qK (by simpa using hi),qq] at q;have⟨c,e1,e2⟩:=map_some q;cases e2;have⟨v,e3,e4⟩:=r.getD e1;refine⟨v,?_,e4⟩;rw[qK (by rw[qe,qX,hl];omega),qq,kZ,e3];rfl
   ·rw[qz (by simpa using km hi),kz] at q;split at q<;>cases q
 ·unfold start;simp[hl,hm]
def zgq.mk{x qual:Str}{st:Stmt}{N ps:LSr}{k m:Nat}{b:Ro->Ob->Option Fl}(h:vL K C x qual st)(S:zr N ps (zc st))(hb:∀(kV doc pm:Value)(an:Option Addr)(cdv ct:Value)(us:LVl),us.length=ps.length->bindArgs (W.fnOf x qual (jm st) (yK st) (zc st) .none kV doc pm an cdv ct) ⟨us,[]⟩=pure (ps.zip us))(hm:ps.length=m+1)(hN:m<N.length)(hbody:∀(f:AdX)(cdv:Value)(A:Around)(outer:List Env)(s:ShX)(H:Hp)(E:XK),Room k (A.deeper (envOfC qual (zc st) s.heap.objs.size f cdv))->
   ORs (Ug CX0 P w K mg base N qual (zc st) f cdv A outer s H E).nox C 0 (yK st) b):zgq P w K mg base (k+1) C x ps (fnR N.length m b):=by
 have⟨f,fd,F,M⟩:=h;refine⟨f,fd,F.ok S (λvs H Q E q=>?_) (λcdv A outer s H vs Q E hr q=>?_),F.binds hb,M⟩
 ·obtain⟨p,us,os,ds,fs,d,A,rfl,_,_,_,r,e,_⟩:=q;unfold fnR at e;split at e
  ·rename_i hl;rw[qX,r.length,hl,hm]
  ·cases e
 ·have⟨t,pp,q'⟩:=hbody f cdv A outer s H E hr;obtain⟨p,us,os,ds,fs,d,A,rfl,o,hA,al,r,e,kk⟩:=q;unfold fnR at e;split at e
  ·rename_i hl;refine⟨t,pp,?_⟩;have R:=zgM (N:=N) al r o hA m hl hN;split at e
   ·rename_i d' e1;cases e;exact q' _ _ _ _ _ _ H os _ _ _ R e1 λv H' s rv=>kk v H' s rv
   ·rename_i es e1;cases e;refine q' _ _ _ _ _ _ H os _ _ _ R e1 λa xs H' n s hx r=>kk _ H' s (.lst (SqL.of ?_) (r.same (xh λb hb=>qA _ hb)))
    rw[zw (al.new n)];exact hx
   ·cases e
  ·cases e
end
section
variable{X:Cx}{C:AdX}{j k k':Nat}{e:Expr}{es:List Expr}{g:OLx}{pos apos p0:Pos}{x m:Str}{ps:LSr}
def gjm(m:Str)(h:Ob->List PyData->Option PyData)(g:OLx):OPx:=λρ fs=>if (fld m fs).isNone=true then (g ρ fs).bind λds=>h fs ds else none
def zjw{pl:Sem Bool}{h:Ob->List PyData->Option PyData}(cl:Cls X.K C)(M:zgq X.prog X.w X.K X.mg X.base k C m ps h)(hr:Room k' X.A)(ha:GJA X C j (e::es) g)(hk:k<=k':=by decide)(hN:X.N[j]?=some x:=by rfl)(hv:Vis X.env.scope x:=by trivial)(hd:NDx x:=by decide)(hcd:NCx x:=by decide)(hst:SEx X e es:=by rfl)(hpl:PLx X pos es:=by rfl)(ht:eval (.Call (.Attribute (.Name x p0) m apos) (e::es) [] pos) X.env=(do
   let ov <-eval (.Name x p0) X.env
   standAt apos.atName
   let (f,first) <-holding [ov] (getMethod ov m pl)
   callWith pos f first (backTo pos (starEach (e::es) X.env)) (backToKw pos (keywordEach [] X.env))):=by rfl):GJ X C j (.Call (.Attribute (.Name x p0) m apos) (e::es) [] pos) (gjm m h g):=by
 have⟨fa,fd,F,B,mm⟩:=M;have⟨t,pa,qa⟩:=ha;refine⟨_,zbp (pl:=pl) (yv (i:=j) hN hv hd hcd) cl mm F (hr.mono hk) B .nil Jn pa hst hpl ht,λσ H os ρ fs p A d Q R sj o oA e kk=>?_⟩;unfold gjm at e;split at e
 ·rename_i hm;have⟨ds,e1,e2⟩:=bind_some e;have o0:=o;cases o with
  |ob hp rr=>
   refine⟨_,sj,p,_,_,rfl,hp,rr.nolook (gM.mp hm),qa σ H os ρ fs p _ ds _ R sj o0 oA e1 λus H1 s1 ru=>?_⟩;rw[kj];exact⟨p,us,os,ds,fs,d,_,rfl,o0.same s1,oA,R.al.same s1,ru,e2,λv H' s rv=>kk v H' (s1.trans s) rv⟩
 ·cases e
end
section
variable{X:Cx}{C:AdX}{ℓ:Nat}{elt tg iter:Expr}{scope:Scope}{pos pos' spos:Pos}{Ts:LSr}{F:LNt}{is:LNt}{fi:OLx}{b:PyData->Ro->Option Ro}{x:Str}
def zi8(j:Nat){fe:OPx}(hc:X.calm=true)(hi:GIB X C ℓ tg iter fi)(S:yc X scope)(hF:∀j∈F,∃x,X.N[j]?=some x/\scope.names.lookup x=some .free)(hj:F[j]?=some ℓ)(hg:∀cl C ex s H,FG (z9 X (Ts++F.map λj=>X.N.getD j "") scope cl C ex s H) tg is b)(he:∀cl C' ex s H,GJ (z9 X (Ts++F.map λj=>X.N.getD j "") scope cl C' ex s H) C (Ts.length+j) elt fe)(his:∀i∈is,i<Ts.length:=by decide)(hs:FSx X iter:=by exact λ_=>rfl):GL X C ℓ (.ListComp elt [⟨tg,iter,[],0⟩] scope pos) (UR Ts.length F fi b fe):=by
 have⟨wi,pi,qi⟩:=hi;refine⟨_,zfh (Ts:=Ts) (F:=F) (g:=gF X.K is b) (te:=tJ X.K C (Ts.length+j) fe) hc pi S hF hg (λcl C ex s H=>(he cl C ex s H).pe) hs,λσ H os ρ fs rs Q R q k=>?_⟩;have⟨es,e1,q⟩:=bind_some q;split at q
 ·rename_i hl;refine qi σ H os ρ fs es _ R e1 λJ H' s W D hD=>?_
  have⟨p,A,h0,h1,h3⟩:=R.ob;exact ZN his (R.rel.same s) (by rw[hj];show(σ[ℓ]?).join=_;rw[h0];rfl) (h1.same s) h3 hl hD W q λH2 xs s2 hx r=>k D xs H2 (s.free hD) (s.trans s2) hx r
 ·cases q
end
end L2.Fu
namespace L2
open PySem PySem.Spec PyProof.Rows
def zd2{X:Cx}{scope sc:Scope}{x0:Str}(hsc:X.env.scope=sc)(kind:scope.kind=.function)(is:scope.names.lookup x0=some .cell)(only:∀y∈scope.names,y.2=.cell->y.1=x0)(cf:∀(n:Nat)(acc:LSA),cellsFrom n scope.names acc=(x0,n)::acc)(pc:∀h:Heap,pushCells h scope.names=h.push { cls:=.type "cell",data:=.cell none })(loc:∀y∈scope.names,y.2=.local->scope.names.lookup y.1=some .local)(free:∀y∈scope.names,y.2=.free->sc.names.lookup y.1=some .cell\/sc.names.lookup y.1=some .free):xS X scope (some x0):=⟨kind,λx h=>kb h▸is,λy hy h=>qR some (only y hy h).symm,λn acc=>cf (n+1) acc,pc,loc,λy hy hf=>by
  show X.env.scope.names.lookup y.1=_\/X.env.scope.names.lookup y.1=_
  rw[hsc];exact free y hy hf⟩
end L2
namespace L2.Fu
open PySem PySem.Spec PyProof.Rows
section
variable{X:Cx}{x0:Str}{elt tg iter:Expr}{scope:Scope}{pos:Pos}{Ts:LSr}{F:LNt}{is:LNt}{fi:RLx}{b:PyData->Ro->Option Ro}{fe:RPx}
def ziR(hc:X.calm=true)(hi:FIB X tg iter fi)(S:xS X scope (some x0))(hF:∀j∈F,∃x,X.N[j]?=some x/\scope.names.lookup x=some .free)(hg:∀cl C ex s H,FG (xQ X (some x0) (Ts++F.map λj=>X.N.getD j "") scope cl C ex s H) tg is b)(he:∀cl C ex s H,FE (xQ X (some x0) (Ts++F.map λj=>X.N.getD j "") scope cl C ex s H) elt fe)(his:∀i∈is,i<Ts.length:=by decide)(hs:FSx X iter:=by exact λ_=>rfl):FL X (.ListComp elt [⟨tg,iter,[],0⟩] scope pos) (zR Ts.length F fi b fe):=by
 have⟨wi,pi,qi⟩:=hi;refine⟨_,zdx (Ts:=Ts) (F:=F) (g:=gF X.K is b) (te:=tF X.K fe) hc pi S hF hg (λcl C ex s H=>(he cl C ex s H).pe) hs,λσ H os ρ rs Q R q k=>?_⟩;have⟨ds,e1,q⟩:=bind_some q;split at q
 ·rename_i hl;refine qi σ H os ρ ds _ R e1 λJ H' s W D hD=>?_
  exact u5 his (R.same s) hl hD W q λH2 xs s2 hx r=>k D xs H2 (s.free hD) (s.trans s2) hx r
 ·cases q
end
def fgc{X:Cx}{Ts:LSr}{F:LNt}{scope:Scope}(i:Nat){x:Str}{pos:Pos}(hN:decide (Ts++F.map λj=>X.N.getD j "").Nodup=true:=by rfl)(hi:(Ts++F.map λj=>X.N.getD j "")[i]?=some x:=by rfl)(hx:∀cl C,Loc (compEnvC scope cl C X.env).scope x:=by exact λ_ _=>Or.inl rfl)(hf:∀cl C,(compEnvC scope cl C X.env).scope.names.lookup x=some .local:=by exact λ_ _=>rfl)(cl C ex s H):FG (z9 X (Ts++F.map λj=>X.N.getD j "") scope cl C ex s H) (.Name x pos) [i] (bN i):=zY i (nD hN) hi (hx _ C) (.inr (hf _ C))
abbrev UM(n:Nat)(p:Value->Value->Value->Option Addr->Value->Value->List Value->Prop):Prop:=∀a b c d e f us,us.length=n->p a b c d e f us
section
variable{p:Value->Value->Value->Option Addr->Value->Value->List Value->Prop}
def um1(h:∀a b c d e f x,p a b c d e f [x]):UM 1 p:=λa b c d e f us hl=>match us,hl with |[x],_=>h a b c d e f x
def um2(h:∀a b c d e f x y,p a b c d e f [x,y]):UM 2 p:=λa b c d e f us hl=>match us,hl with |[x,y],_=>h a b c d e f x y
def um3(h:∀a b c d e f x y z,p a b c d e f [x,y,z]):UM 3 p:=λa b c d e f us hl=>match us,hl with |[x,y,z],_=>h a b c d e f x y z
end
def zfk:OFx:=osq (zaw "free" λρ x=>zkG (aC (gv 1) a0) ρ) (osq (zaw "taken" λρ x=>vq a0 ρ) (osq (zaw "checks" λρ x=>zR 1 [1] (y4 (aC (gv 1) a0)) (bN 0) (yg (y3 vT (aC (gv 0) (aC (gv 1) a0)))) ρ) (ofl "pivot" λρ x=>cst (PyData.int 1) ρ)))
def V8:MFx:=fnM 2 1 zfk
def zlO:OFx:=(osq (W7 2 (ocomp 1 [1] (gsq (gg "checks")) (bN 0) (zg yd (aC (gv 0) (aC (gv 1) a0))))) (osq (W7 3 (YJ 2 [] (λρ x=>zfo false (aC (gb 2) a0) ρ) (b2 (bN 0) (bN 1)) (zG (op2 neD (gv 1) (cst (PyData.int 0)))) (gv 0))) (osq (oif (λρ x=>zG (op2 eqD (gb 3) (yg (vq a0))) ρ) (oret λρ x=>cst (PyData.bool false) ρ) os0) (osq (oset 4 λρ x=>op2 ixD (gb 3) (cst (PyData.int 0)) ρ) (osq (opl 5 2 λρ x=>gv 4 ρ) (osq (opo 6 "checks" λρ x=>gv 4 ρ) (osq (W7 7 (UR 2 [0,5,6] (gzp false false (gAC (gg "checks") (gAC (λρ x=>gb 2 ρ) gA0))) (b2 (bN 0) (bN 1)) (gcall (lF Jj) (gAC (λρ x=>gv 0 ρ) (gAC (λρ x=>gv 1 ρ) (gAC (λρ x=>gv 4 ρ) (gAC (λρ x=>gv 3 ρ) (gAC (gf "pivot") gA0)))))))) (osq (ofm "checks" 7) (osq (ofl "pivot" λρ x=>gv 5 ρ) (osq (ziD "taken" "free" λρ x=>gv 4 ρ) (oret λρ x=>cst (PyData.bool true) ρ)))))))))))
def UH:MFx:=fnM 8 1 (zlO)
def zmA:OFx:=(oret (gop eqD (gg "free") λρ x=>yg (vq a0) ρ))
def UX:MFx:=fnM 1 0 (zmA)
def zlh:OFx:=(osq (oif (λρ x=>zG (op2 eqD (gv 1) (xj a0)) ρ) (oret λρ x=>gv 2 ρ) os0) (oret (gcall (lF xc) (gAC (gcall (lF Wd) (gAC (λρ x=>gv 2 ρ) (gAC (gop ixD (gg "steps") λρ x=>op2 ixD (gv 1) (op1 zaB (cst (PyData.int 1))) ρ) gA0))) gA0))))
def UL:MFx:=fnM 3 2 (zlh)
def zmb:OFx:=(osq (oap "words" λρ x=>gv 1 ρ) (osq (oap "rows" λρ x=>gv 2 ρ) (ofor (grn (gAC (gcall yj (gAC (gg "steps") gA0)) gA0)) (bN 3) (oap "waiting" λρ x=>xj (aC (op2 Jq (gv 1) (xj (aC (gv 3) a0))) (aC (gv 2) a0)) ρ))))
def WA:MFx:=fnM 4 2 (zmb)
def zij(CS:AdX):OFx:=(osq (owh (λx x_1=>1000000) (gaF (gtF (gbo (gop (ze2 λi j=>decide (i<j)) (gf "asked") (gcall yj (gAC (gg "waiting") gA0))))) (gnF (gvF (gmn CS "span" "full" UX gA0)))) (osq (oset 1 (gop ixD (gop ixD (gg "waiting") (gf "asked")) λρ x=>cst (PyData.int 0) ρ)) (osq (osm 2 (gms "row_led_on" UL (gAC (λρ x=>gv 1 ρ) (gAC (gop ixD (gop ixD (gg "waiting") (gf "asked")) λρ x=>cst (PyData.int 1) ρ) gA0)))) (osq (ofl "asked" (gop xD (gf "asked") λρ x=>cst (PyData.int 1) ρ)) (zah (gvF (gmn CS "span" "take" UH (gAC (λρ x=>gv 2 ρ) gA0))) (osq (oex (gms "keep" WA (gAC (λρ x=>gv 1 ρ) (gAC (λρ x=>gv 2 ρ) gA0)))) (oret λρ x=>gv 2 ρ)) os0))))) (oret λρ x=>cst PyData.none ρ))
def xu(CS:AdX):MFx:=fnM 3 0 (zij CS)
def zfL(CS:AdX):OFx:=(osq (zaw "steps" λρ x=>zR 1 [] (yw (op2 ixD (gv 1) (cst (PyData.int 1)))) (bN 0) (op2 ixD (zg vH (aC (gv 0) a0)) (cst (PyData.int 0))) ρ) (osq (zkl "span" CS λρ x=>fnw V8 (aC (zg yj (aC (op2 ixD (gv 1) (cst (PyData.int 0))) a0)) a0) ρ) (osq (zaw "words" λρ x=>vq a0 ρ) (osq (zaw "rows" λρ x=>vq a0 ρ) (osq (zaw "waiting" λρ x=>vq (aC (xj (aC (xj a0) (aC (zg (lF xM) (aC (op2 ixD (gv 1) (cst (PyData.int 0))) a0)) a0))) a0) ρ) (ofl "asked" λρ x=>cst (PyData.int 0) ρ))))))
def vM(CS:AdX):MFx:=fnM 2 1 (zfL CS)
def zeG(CS:AdX):RFx:=(sq (zX 2 (zg vN (aC (gv 0) (aC (gv 1) a0)))) (sq (zX 3 (zg (lF xM) (aC (op2 ixD (gv 2) (cst (PyData.int 2))) a0))) (zdQ 4 (fnw (vM CS) (aC (gv 2) a0)) (osq (osm 5 (gms "onward" (xu CS) gA0)) (osq (owh (λx x_1=>1000) (gtF λρ x=>zG (op2 WC (gv 5) (cst PyData.none)) ρ) (osq (oif (λρ x=>zG (op2 neD (zg yd (aC (gv 5) (aC (gv 3) a0))) (cst (PyData.int 0))) ρ) (oret (gtp (gAC (gop ixD (gg "words") λρ x=>op1 zaB (cst (PyData.int 1)) ρ) (gAC (glF (gsl (gg "rows") o0 (oS (op1 zaB (cst (PyData.int 1)))))) gA0)))) os0) (osm 5 (gms "onward" (xu CS) gA0)))) (ZO (gtp (gAC (λρ x=>cst PyData.none ρ) (gAC (gg "rows") gA0)))))))))
def xB(CS:AdX):LPx:=fnF 6 2 (zeG CS)
def zaI:Ro->Ob->Option Fl:=(rsq (zfU 2 (zjH (vq (aC (cst (.tuple [.int 0,.int 1])) a0)) (gop xD (gcall yj (gAC (gg "free") gA0)) (gcall yj (gAC (gg "taken") gA0)))))
 (rsq (rsi 2 (λρ x=>gv 1 ρ) λρ x=>cst (.tuple [.int 1,.int 1]) ρ)
 (rsq (rfk (gzf "free" "checks") (b2 (bN 3) (bN 4)) (rsi 2 (λρ x=>gv 3 ρ) (gcall uz (gAC (λρ x=>op1 zaB (op2 ixD (gv 4) (gv 1)) ρ) (gAC (gf "pivot") gA0)))))
 λρ x=>Uh (gk 2) ρ)))
def uy:Ob->List PyData->Option PyData:=fnR 5 1 zaI
def xY(CS:AdX):List PyData->Option Ob:=fnN 2 1 (zjl 1 (fnw (vM CS) (aC (gv 0) a0)) (osq (owh (λ_ _=>1000) (zhm (gms "onward" (xu CS) gA0)) os0) os0))
def Uv:RFx:=(sq (jc 3 (zR 1 [0] (yw (gv 1)) (bN 0) (zg Jw (aC (gv 1) (aC (gv 0) a0)))))
 (retS (zg zW (aC (yg (zR 1 [3] (yw (gv 2)) (bN 0) (zg zW (aC (yg (zR 1 [0] (yw (gb 1)) (bN 0) (zg vW (aC (gv 1) (aC (gv 0) a0))))) a0)))) a0))))
def jw:LPx:=fnF 4 3 Uv
def zbb(CS:AdX):RFx:=(zdQ 1 (zhi "span" CS (zfP (xY CS) (aC (gv 0) a0)))
 (osq (zah (gvF (gms "full" UX gA0)) (oret λρ x=>gv 0 ρ) os0)
 (osq (oset 2 (glF (gsrt (gg "taken"))))
 (osq (oset 3 (glF (UR 1 [1] (λρ x=>yw (gv 2) ρ) (bN 0) (gjm "settled_row" uy (gAC (λρ x=>gv 0 ρ) gA0)))))
 (osq (oset 4 λρ x=>zg zW (aC (yg (zR 1 [0] (yw (gv 2)) (bN 0) (op2 ixD (op2 ixD (gv 1) (cst (.int 0))) (gv 0)))) a0) ρ)
 (osq (oset 5 λρ x=>zg zW (aC (yg (zR 1 [2,3] (yw (op2 ixD (gv 0) (cst (.int 1)))) (bN 0) (zg jw (aC (gv 0) (aC (gv 1) (aC (gv 2) a0)))))) a0) ρ)
 (osq (oset 6 λρ x=>zg zW (aC (yg (zR 1 [0] (yw (gv 3)) (bN 0) (zg vW (aC (gv 0) (aC (op2 ixD (gv 1) (cst (.int 2))) a0))))) a0) ρ)
 (oret λρ x=>xj (aC (gv 4) (aC (gv 5) (aC (gv 6) a0))) ρ))))))))
def ug(CS:AdX):LPx:=fnF 7 1 (zbb CS)
def YS(CS:AdX):RFx:=(retS (zg Vy (aC (zg (ug CS) (aC (zg Vy (aC (zg (ug CS) (aC (gv 0) a0)) a0)) a0)) a0)))
def xV(CS:AdX):LPx:=fnF 1 1 (YS CS)
def zhT(CS:AdX):RFx:=(retS (zg yj (aC (op2 ixD (zg (xV CS) (aC (gv 0) a0)) (cst (.int 0))) a0)))
def Jz(CS:AdX):LPx:=fnF 1 1 (zhT CS)
def Zi(CS:AdX):RFx:=(sq (zX 2 (zg (xB CS) (aC (gv 0) (aC (gv 1) a0))))
 (sq (ifS (zG (op2 WC (op2 ixD (gv 2) (cst (.int 0))) (cst .none))) (retS (cst .none)) s0)
 (retS (yg (zR 1 [] (yw (op2 ixD (gv 2) (cst (.int 1)))) (bN 0) (yg (zR 1 [] (yw (gv 0)) (bN 0) (xj (aC (gv 0) (aC (cst (.int 1)) a0))))))))))
def we(CS:AdX):LPx:=fnF 3 2 (Zi CS)
end L2.Fu
namespace L2.Fu
open PySem WS WD WD.DT
open PySem.Builtin.Int (intBits)
def zfD{i:Nat}{fi f:RPx}{ρ:Ro}{ds:LPd}{d:PdX}{a:Nat}(h1:gk i ρ=some ds)(h2:f ρ=some d)(h3:fi ρ=some (.int (a:Int)))(h4:a<ds.length):siS i fi f ρ=some (.nx (ρ.set i (.ow (ds.set a d)))):=by
 unfold siS;rw[h1,qp,h2,qp,h3];show(ixN ds.length (a:Int)).bind _=_
 have e:ixN ds.length (a:Int)=some a:=by
  unfold ixN;rw[qj (by omega),qj (by omega)];simp
 rw[e];rfl
def zeV{n:Nat}{f g:Z1x}(hn:n<=1000)(h:∀i,i<n->intBits (f i)<=1000000/\intBits (g i)<=1000000):yd [.list (xg n f),.list (xg n g)]=some (.int (yo n λi=>f i*g i)):=by
 have hl:(List.range n).length<=16777216:=by rw[qu];omega
 have ec:zR 2 [] (Ue false false (aC (gv 0) (aC (gv 1) a0))) (b2 (bN 0) (bN 1)) (op2 yB (gv 0) (gv 1)) [.pu (.list (xg n f)),.pu (.list (xg n g))]=some (xg n λi=>f i*g i):=zU (xs:=List.range n) (e:=λi=>.tuple [.int (f i),.int (g i)]) (d:=λi=>.int (f i*g i)) (zfV _ rfl) hl λi hi=>by
   have hi:=qE.mp hi;exact JX.trans ((zd rfl rfl).trans (yV (jf (h i hi).1 (h i hi).2 (by omega))))
 have es:zhW [.list (xg n λi=>f i*g i)]=some (.int (yo n λi=>f i*g i)):=by
  show(Jp zcY (xg n λi=>f i*g i)).map (λns=>PyData.int ns.sum)=_
  rw[Zp,gO,WI]
 exact zL rfl (zA ((zb (zj (zS ec) rfl)).trans es))
def ziL{n:Nat}{t:Z1x}{c:Nat->Nat->Int}(hn:n<=1000)(ht:∀a,a<n->intBits (t a)<=1000000)(hc:∀a b,a<n->b<n->intBits (c a b)<=1000000):Wd [.list (xg n t),.list ((List.range n).map λb=>.list (xg n λa=>c a b))]=some (xg n λb=>yo n λa=>t a*c a b):=by
 refine vA rfl (jH ?_);exact zU (xs:=List.range n) (e:=λb=>.list (xg n λa=>c a b)) (d:=λb=>.int (yo n λa=>t a*c a b)) (jt rfl) (by simpa using qw hn (by decide)) λb hb=>by
  have hb:=qE.mp hb;exact yy.trans ((zb rfl).trans (zeV hn λa ha=>⟨ht a ha,hc a b ha hb⟩))
def gl(f:Z1x):Nat->Nat
 |0=>0
 |n+1=>Int.gcd (f n) (gl f n:Int)
theorem Z3{f g:Z1x}:∀n,(∀i,i<n->f i=g i)->gl f n=gl g n
 |0,_=>rfl
 |n+1,h=>by
  show Int.gcd (f n) _=Int.gcd (g n) _
  rw[h n (kR n),Z3 n λi hi=>h i (mH hi)]
theorem zfa(f:Z1x)(c:Nat):∀n,gl (λi=>(c:Int)*f i) n=c*gl f n
 |0=>rfl
 |n+1=>by
  show Int.gcd ((c:Int)*f n) _=c*Int.gcd (f n) _
  rw[zfa f c n,nj,Int.gcd_mul_left,kT]
theorem ZC(f:Z1x):∀n i,i<n->(gl f n:Int) ∣ f i
 |0,i,h=>absurd h (gq _)
 |n+1,i,h=>by
  show((Int.gcd (f n) (gl f n:Int):Nat):Int) ∣ f i
  by_cases e:i=n
  ·rw[e];exact Int.gcd_dvd_left ..
  ·exact Int.dvd_trans (Int.gcd_dvd_right ..) (ZC f n i (by omega))
theorem zhr{a b:Int}{f:Z1x}:∀n,(∀i,i<n->a ∣ b*f i)->a ∣ b*(gl f n:Int)
 |0,_=>by
  show a ∣ b*((0:Nat):Int)
  simp
 |n+1,h=>by
  show a ∣ b*((Int.gcd (f n) (gl f n:Int):Nat):Int)
  have h1:=h n (kR n);have h2:=zhr n λi hi=>h i (mH hi)
  have h3:a ∣ ((Int.gcd (b*f n) (b*(gl f n:Int)):Nat):Int):=Int.dvd_coe_gcd h1 h2;rw[Int.gcd_mul_left] at h3;rw[<-Int.natAbs_dvd_natAbs] at h3 ⊢;rw[kg,kT];rw[kT] at h3;exact h3
def Prim(n:Nat)(r:Z1x):Prop:=(∀i,i<n->r i=0)\/gl r n=1
def Prim.le{n:Nat}{r z:Z1x}(h:Prim n r){a b:Int}(ha:a≠0)(hb:b≠0)(e:∀i,i<n->a*z i=b*r i):∀i,i<n->(r i).natAbs<=(z i).natAbs:=λi hi=>by
 rcases h with h|h
 ·rw[h i hi];exact kE _
 ·have h1:a ∣ b*(gl r n:Int):=zhr n λi hi=>⟨z i,(e i hi).symm⟩
  rw[h] at h1;have⟨t,ht⟩:=h1;have e1:z i=t*r i:=by
   have h2:=e i hi;have h3:b=a*t:=by rw[<-ht];simp
   rw[h3,Int.mul_assoc] at h2;exact Int.eq_of_mul_eq_mul_left ha h2
  have ht0:t≠0:=λz=>by
   rw[z,mr] at ht
   have:b*((1:Nat):Int)=b:=by simp
   omega
  rw[e1,kg]
  have:1<=t.natAbs:=by omega
  exact mI _ (by omega)
def zhL{n i:Nat}{f:Z1x}{d:PdX}(h:(xg n f)[i]?=some d):d=.int (f i):=by
 unfold xg at h;rw[qq] at h;have⟨j,e1,e2⟩:=map_some h;obtain⟨_,e3⟩:=qg.mp e1;rw[List.getElem_range] at e3;rw[<-e2,<-e3]
def wC{n:Nat}{f:Z1x}(hn:n<=1000)(hf:∀i,i<n->intBits (f i)<=8000):∃(r:Z1x)(g:Nat),xc [.list (xg n f)]=some (xg n r)/\0<g/\(∀i,i<n->f i=(g:Int)*r i)/\Prim n r:=by
 obtain⟨ρ1,e1,o,rfl⟩:=uS (ds:=xg n f) (it:=yw (gv 0)) (bd:=bN 2) (b:=zX 1 (zg yM (aC (gv 2) (aC (gv 1) a0))))
  (ρ0:=[.pu (.list (xg n f)),.pu (.int 0),.no]) (λi ρ=>∃o,ρ=[.pu (.list (xg n f)),.pu (.int (gl f i:Int)),o]) rfl ⟨.no,rfl⟩
  (λi d ρ hd ⟨o,e⟩=>by
   subst e;have e:=zhL hd;subst e;exact⟨_,_,rfl,zD ((zb rfl).trans (jX _ _)),.pu (.int (f i)),rfl⟩)
 have hl:(xg n f).length=n:=by simp[xg]
 rw[hl] at e1;have et:zG (op2 ltI (gv 1) (cst (.int 2))) [.pu (.list (xg n f)),.pu (.int (gl f n:Int)),o]=some (decide ((gl f n:Int)<2)):=zE rfl;by_cases h:gl f n<2
 ·refine⟨f,1,vA rfl ((zv (zD rfl)).trans ((zv e1).trans ((znb (d:=xg n f) ?_)))),by decide,λi _=>by simp,?_⟩
  ·exact(uF (et.trans (qR some (qG (by omega))))).trans (jH ((yY rfl).trans rfl))
  ·by_cases z:gl f n=0
   ·left
    intro i hi
    have:=ZC f n i hi;rw[z] at this;simpa using this
   ·right
    omega
 ·have hp:(0:Int)<gl f n:=by omega
  refine⟨λi=>(f i).fdiv (gl f n:Int),gl f n,vA rfl ((zv (zD rfl)).trans ((zv e1).trans ((zv ((jZ (et.trans (qR some (qM (by omega))))).trans rfl)).trans (jH ?_)))),by omega,λi hi=>?_,?_⟩
  ·refine zU (xs:=List.range n) (e:=λi=>.int (f i)) (d:=λi=>.int ((f i).fdiv (gl f n:Int))) (jt rfl) (by simpa using qw hn (by decide)) λi hi=>?_
   have hi:=qE.mp hi;exact yy.trans ((zd rfl rfl).trans (jd (by omega) (by
    rw[kT];have h1:∃j,j<n/\f j≠0:=by
     refine kx λq=>?_
     have h0:∀j,j<n->f j=0:=λj hj=>kx λz=>q ⟨j,hj,z⟩
     have:gl f n=0:=by
      have e:gl f n=gl (λi=>((0:Nat):Int)*f i) n:=Z3 n λi hi=>by rw[h0 i hi];simp
      rw[e,zfa];simp
     omega
    have⟨j,hj,hz⟩:=h1;have h2:gl f n<=(f j).natAbs:=gc (by omega) (by
     have:=ZC f n j hj;rw[<-Int.natAbs_dvd_natAbs] at this;simpa using this)
    have h3:(f j).natAbs<2 ^ 8000:=mX.mp (hf j hj);have h4:gl f n<2 ^ 8000:=qI h2 h3
    have h5:(gl f n).log2<8000:=(pU (by omega)).mpr h4;omega)))
  ·have⟨c,hc⟩:=ZC f n i hi;have e:(f i).fdiv (gl f n:Int)=c:=by
    rw[hc,nI _ (by omega)]
   show f i=(gl f n:Int)*(f i).fdiv (gl f n:Int)
   rw[e,<-hc]
  ·right
   have e:gl f n=gl (λi=>((gl f n:Nat):Int)*(f i).fdiv (gl f n:Int)) n:=Z3 n λi hi=>by
    have⟨c,hc⟩:=ZC f n i hi;have e:(f i).fdiv (gl f n:Int)=c:=by
     rw[hc,nI _ (by omega)]
    rw[e,<-hc]
   rw[zfa] at e;exact Nat.eq_of_mul_eq_mul_left (show 0<gl f n by omega) (by rw[Nat.mul_one];exact e.symm)
section
variable{f g:OFx}{ρ ρ':Ro}{fs fs':Ob}{d:PdX}{ds:LPd}
def yb(h:f ρ fs=some (.nx ρ' fs')):osq f g ρ fs=g ρ' fs':=by unfold osq;rw[h]
def WL(h:f ρ fs=some (.rt d fs')):osq f g ρ fs=some (.rt d fs'):=by unfold osq;rw[h]
def JC{i:Nat}{h:OLx}(e:h ρ fs=some ds):W7 i h ρ fs=some (.nx (ρ.set i (.ow ds)) fs):=by unfold W7;rw[e];rfl
def uX{i:Nat}{h:OPx}(e:h ρ fs=some d):oset i h ρ fs=some (.nx (ρ.set i (.pu d)) fs):=by unfold oset;rw[e];rfl
def vi{h:OPx}(e:h ρ fs=some d):oret h ρ fs=some (.rt d fs):=by unfold oret;rw[e];rfl
def zbM{x:Str}{h:OPx}(e:h ρ fs=some d)(hl:fs.length<1000):ofl x h ρ fs=some (.nx ρ (zP x (.pu d) fs)):=by unfold ofl;rw[e,qp,qj hl]
def uP{x:Str}{h:OLx}(e:h ρ fs=some ds)(hl:fs.length<1000):zaw x h ρ fs=some (.nx ρ (zP x (.ow ds) fs)):=by unfold zaw;rw[e,qp,qj hl]
def zjT{x:Str}{C2:AdX}{h:Ro->Ob->Option Ob}{gs:Ob}(e:h ρ fs=some gs)(hl:fs.length<1000):zkl x C2 h ρ fs=some (.nx ρ (zP x (.ob C2 gs) fs)):=by unfold zkl;rw[e,qp,qj hl]
def zhP{c:Ro->Ob->Option Bool}(h:c ρ fs=some true):oif c f g ρ fs=f ρ fs:=by unfold oif;rw[h];rfl
def ziS{c:Ro->Ob->Option Bool}(h:c ρ fs=some false):oif c f g ρ fs=g ρ fs:=by unfold oif;rw[h];rfl
def zi1{c:Ro->Ob->Option (Bool×Ob)}(h:c ρ fs=some (true,fs')):zah c f g ρ fs=f ρ fs':=by unfold zah;rw[h];rfl
def zho{c:Ro->Ob->Option (Bool×Ob)}(h:c ρ fs=some (false,fs')):zah c f g ρ fs=g ρ fs':=by unfold zah;rw[h];rfl
def zmq{h:Ro->Ob->Option (PyData×Ob)}(e:h ρ fs=some (d,fs')):oex h ρ fs=some (.nx ρ fs'):=by unfold oex;rw[e];rfl
def zcf{i:Nat}{h:Ro->Ob->Option (PyData×Ob)}(e:h ρ fs=some (d,fs')):osm i h ρ fs=some (.nx (ρ.set i (.pu d)) fs'):=by unfold osm;rw[e];rfl
def zeA{x:Str}{h:OPx}(e1:fld x fs=some (.ow ds))(e:h ρ fs=some d)(hl:ds.length<16777216):oap x h ρ fs=some (.nx ρ (zP x (.ow (ds++[d])) fs)):=by
 unfold oap;rw[e1];dsimp only;rw[e,qp,qj hl]
def zmJ{i j:Nat}{x:Str}{h:OPx}(e1:fld x fs=some (.ow ds))(e:h ρ fs=some (.int (j:Int)))(hl:ds.length<=16777216)(hd:ds[j]?=some d):opo i x h ρ fs=some (.nx (ρ.set i (.pu d)) (zP x (.ow (ds.eraseIdx j)) fs)):=by
 obtain⟨hj,_⟩:=qg.mp hd;unfold opo;rw[e1,e];dsimp only;rw[qj ⟨by omega,by omega,hl⟩,kf,hd];rfl
def zlX{i k j:Nat}{h:OPx}(e1:ρ[k]?=some (.ow ds))(e:h ρ fs=some (.int (j:Int)))(hl:ds.length<=16777216)(hd:ds[j]?=some d):opl i k h ρ fs=some (.nx ((ρ.set k (.ow (ds.eraseIdx j))).set i (.pu d)) fs):=by
 obtain⟨hj,_⟩:=qg.mp hd;unfold opl;rw[e1,e];dsimp only;rw[qj ⟨by omega,by omega,hl⟩,kf,hd];rfl
def zlW{i:Nat}{x:Str}(e1:ρ[i]?=some (.ow ds))(hl:fs.length<1000):ofm x i ρ fs=some (.nx (ρ.set i .no) (zP x (.ow ds) fs)):=by
 unfold ofm;rw[e1];dsimp only;rw[qj hl]
def zjK{j:Nat}{x y:Str}{es:LPd}{h:OPx}(e1:fld y fs=some (.ow ds))(e:h ρ fs=some (.int (j:Int)))(hl:ds.length<=16777216)(hd:ds[j]?=some d)(e2:fld x (zP y (.ow (ds.eraseIdx j)) fs)=some (.ow es))(hl2:es.length<16777216):ziD x y h ρ fs=some (.nx ρ (zP x (.ow (es++[d])) (zP y (.ow (ds.eraseIdx j)) fs))):=by
 obtain⟨hj,_⟩:=qg.mp hd;unfold ziD;rw[e1,e];dsimp only;rw[qj ⟨by omega,by omega,hl⟩,kf,hd,qp,e2];dsimp only;rw[qj hl2]
def zhI{T:Nat}{F:LNt}{fi:OLx}{b:PyData->Ro->Option Ro}{fe:RPx}{α:Type}{xs:List α}{e d:α->PyData}(h1:fi ρ fs=some (xs.map e))(hl:xs.length<=16777216)(h2:∀x∈xs,(b (e x) (compEnv T F ρ)).bind fe=some (d x)):ocomp T F fi b fe ρ fs=some (xs.map d):=by
 unfold ocomp;rw[h1,qp,qj (by rw[qe];exact hl),uq];exact JK h2
def zbm{T:Nat}{F:LNt}{fi:OLx}{b:PyData->Ro->Option Ro}{fe:OPx}{α:Type}{xs:List α}{e d:α->PyData}(h1:fi ρ fs=some (xs.map e))(hl:xs.length<=16777216)(h2:∀x∈xs,(b (e x) (compEnv T F ρ)).bind (λρ'=>fe ρ' fs)=some (d x)):UR T F fi b fe ρ fs=some (xs.map d):=by
 unfold UR;rw[h1,qp,qj (by rw[qe];exact hl),uq];exact JK h2
def zen{C2:AdX}{y m:Str}{h:MFx}{ga:OLx}{gs gs':Ob}(e1:fld y fs=some (.ob C2 gs))(e2:fld m gs=none)(e3:ga ρ fs=some ds)(e4:h gs ds=some (d,gs')):gmn C2 y m h ga ρ fs=some (d,zP y (.ob C2 gs') fs):=by
 unfold gmn;rw[e1];dsimp only;rw[qj ⟨rfl,by rw[e2];rfl⟩,e3,qp,e4];rfl
def wR{m:Str}{h:MFx}{ga:OLx}(e2:fld m fs=none)(e3:ga ρ fs=some ds)(e4:h fs ds=some (d,fs')):gms m h ga ρ fs=some (d,fs'):=by
 unfold gms;rw[qj (by rw[e2];rfl),e3];exact e4
def yN{h:OPx}{ga:OLx}(e1:h ρ fs=some d)(e2:ga ρ fs=some ds):gAC h ga ρ fs=some (d::ds):=by unfold gAC;rw[e1,qp,e2];rfl
def Ja{h:PyData->PyData->Option PyData}{a b:OPx}{x y:PdX}(e1:a ρ fs=some x)(e2:b ρ fs=some y):gop h a b ρ fs=h x y:=by unfold gop;rw[e1,qp,e2];rfl
def vw{h:LPx}{ga:OLx}(e:ga ρ fs=some ds):gcall h ga ρ fs=h ds:=by unfold gcall;rw[e];rfl
def zdJ{x:Str}(e:fld x fs=some (.pu d)):gf x ρ fs=some d:=by unfold gf;rw[e]
def uw{x:Str}(e:fld x fs=some (.ow ds)):gg x ρ fs=some (.list ds):=by unfold gg;rw[e]
def zls{h:OPx}{c:Bool}(e:h ρ fs=some (.bool c)):gbo h ρ fs=some c:=by unfold gbo;rw[e]
def zcl{h:Ro->Ob->Option Bool}{c:Bool}(e:h ρ fs=some c):gtF h ρ fs=some (c,fs):=by unfold gtF;rw[e];rfl
def ZG{h:Ro->Ob->Option (PyData×Ob)}{c:Bool}(e:h ρ fs=some (.bool c,fs')):gvF h ρ fs=some (c,fs'):=by unfold gvF;rw[e]
def zlB{h:Ro->Ob->Option (Bool×Ob)}{c:Bool}(e:h ρ fs=some (c,fs')):gnF h ρ fs=some (!c,fs'):=by unfold gnF;rw[e];rfl
def zmX{a b:Ro->Ob->Option (Bool×Ob)}(e:a ρ fs=some (true,fs')):gaF a b ρ fs=b ρ fs':=by unfold gaF;rw[e];rfl
def znc{a b:Ro->Ob->Option (Bool×Ob)}(e:a ρ fs=some (false,fs')):gaF a b ρ fs=some (false,fs'):=by unfold gaF;rw[e];rfl
def zmW{h:OPx}(e:h ρ fs=some (.list ds)):gsq h ρ fs=some ds:=by unfold gsq;rw[e]
def zmy{ga:OLx}{xs ys:LPd}(e:ga ρ fs=some [.list xs,.list ys]):gzp false false ga ρ fs=some (Jr xs ys):=by unfold gzp;rw[e];rfl
def US{n m:Nat}{b:OFx}(hm:ds.length=m)(h:b (.no::(ds.map Sl.pu++List.replicate (n - (m+1)) .no)) fs=some (.rt d fs')):fnM n m b fs ds=some (d,fs'):=by unfold fnM;rw[qj hm,h]
def zeu{n m:Nat}{b:OFx}(hm:ds.length=m)(h:b (.no::(ds.map Sl.pu++List.replicate (n - (m+1)) .no)) fs=some (.nx ρ' fs')):fnM n m b fs ds=some (.none,fs'):=by unfold fnM;rw[qj hm,h]
def zdH{h:LLx}{es:LPd}(e:h ds=some es):lF h ds=some (.list es):=by unfold lF;rw[e];rfl
end
def spR(fr tk ch:LPd)(pv:PdX):Ob:=[(Str.ofString "free",.ow fr),(Str.ofString "taken",.ow tk),(Str.ofString "checks",.ow ch),(Str.ofString "pivot",.pu pv)]
def reR(ss:LPd)(CS:AdX)(sp:Ob)(ws rs wt:LPd)(a:PdX):Ob:=[(Str.ofString "steps",.ow ss),(Str.ofString "span",.ob CS sp),(Str.ofString "words",.ow ws),(Str.ofString "rows",.ow rs),(Str.ofString "waiting",.ow wt),(Str.ofString "asked",.pu a)]
section
variable{fr tk ch fr':LPd}{pv pv':PdX}
def Yx:fld "free" (spR fr tk ch pv)=some (.ow fr):=rfl
def Y1:fld "taken" (spR fr tk ch pv)=some (.ow tk):=rfl
def JW:fld "checks" (spR fr tk ch pv)=some (.ow ch):=rfl
def zcL:fld "pivot" (spR fr tk ch pv)=some (.pu pv):=rfl
def zb7:fld "full" (spR fr tk ch pv)=none:=rfl
def zfX:fld "take" (spR fr tk ch pv)=none:=rfl
def zcJ:zP "free" (.ow fr') (spR fr tk ch pv)=spR fr' tk ch pv:=rfl
def zgf:zP "taken" (.ow fr') (spR fr tk ch pv)=spR fr fr' ch pv:=rfl
def YW:zP "checks" (.ow fr') (spR fr tk ch pv)=spR fr tk fr' pv:=rfl
def zgP:zP "pivot" (.pu pv') (spR fr tk ch pv)=spR fr tk ch pv':=rfl
def zni{c d:LPd}{e:PdX}:zP "pivot" (.pu e) (zP "checks" (.ow d) (zP "taken" (.ow c) (zP "free" (.ow fr) [])))=spR fr c d e:=rfl
end
section
variable{ss ws rs wt xs:LPd}{CS:AdX}{sp sp':Ob}{a a':PdX}
def zdi:fld "steps" (reR ss CS sp ws rs wt a)=some (.ow ss):=rfl
def YB:fld "span" (reR ss CS sp ws rs wt a)=some (.ob CS sp):=rfl
def zcw:fld "words" (reR ss CS sp ws rs wt a)=some (.ow ws):=rfl
def zcn:fld "rows" (reR ss CS sp ws rs wt a)=some (.ow rs):=rfl
def UU:fld "waiting" (reR ss CS sp ws rs wt a)=some (.ow wt):=rfl
def Z5:fld "asked" (reR ss CS sp ws rs wt a)=some (.pu a):=rfl
def zmg:fld "row_led_on" (reR ss CS sp ws rs wt a)=none:=rfl
def zjO:fld "keep" (reR ss CS sp ws rs wt a)=none:=rfl
def vO:fld "onward" (reR ss CS sp ws rs wt a)=none:=rfl
def Y2:zP "span" (.ob CS sp') (reR ss CS sp ws rs wt a)=reR ss CS sp' ws rs wt a:=rfl
def zgV:zP "words" (.ow xs) (reR ss CS sp ws rs wt a)=reR ss CS sp xs rs wt a:=rfl
def zis:zP "rows" (.ow xs) (reR ss CS sp ws rs wt a)=reR ss CS sp ws xs wt a:=rfl
def zcC:zP "waiting" (.ow xs) (reR ss CS sp ws rs wt a)=reR ss CS sp ws rs xs a:=rfl
def zgv:zP "asked" (.pu a') (reR ss CS sp ws rs wt a)=reR ss CS sp ws rs wt a':=rfl
def zmU:zP "asked" (.pu a) (zP "waiting" (.ow wt) (zP "rows" (.ow rs) (zP "words" (.ow ws) (zP "span" (.ob CS sp) (zP "steps" (.ow ss) [])))))=reR ss CS sp ws rs wt a:=rfl
end
abbrev yi(n:Nat)(r:Z1x):PyData:=.list (xg n r)
abbrev zF(i:Nat):PyData:=.int (i:Int)
def zjA(t:Bool)(n:Nat)(f:Q1x):qd t n f=sqD t (((List.range n).map f).map fr):=by
 cases t<;>(show _=sqD _ _;unfold sqD;rw[kY];rfl)
def zlq{t:Bool}{n M N:Nat}{f:Q1x}(hn:n<=42)(hM:0<M)(sM:Sz M)(sN:Sz N)(hf:∀i,i<n->InB M N (f i)):∃(r:Z1x)(c:Rat),xM [qd t n f]=some (xg n r)/\c≠0/\(∀i,i<n->(r i:Rat)=c*f i)/\Prim n r:=by
 have hd:∀q∈(List.range n).map f,q.den ∣ M:=λq hq=>by
  obtain⟨a,ha,rfl⟩:=qT.mp hq;exact(hf a (qE.mp ha)).den
 have hB0:0<xK ((List.range n).map f):=ZI _;have hB1:xK ((List.range n).map f) ∣ M:=VN _ hd
 have hB2:∀a,a<n->(f a).den ∣ xK ((List.range n).map f):=λa ha=>zac _ _ (qT.mpr ⟨a,qE.mpr ha,rfl⟩)
 have eb:yk [qd t n f]=some (.int (xK ((List.range n).map f):Int)):=by
  rw[zjA];exact vz hM sM hd
 have et:yX [qd t n f,.int (xK ((List.range n).map f):Int)]=some (xg n λi=>jx (f i) (xK ((List.range n).map f))):=u7 (t:=t) (n:=n) (f:=f) (by omega) hB0 (Sz.mono (gc hM hB1) sM) λa ha=>⟨hB2 a ha,((hf a ha).bq sM sN).n⟩
 have bt:∀a,a<n->intBits (jx (f a) (xK ((List.range n).map f)))<=8000:=λa ha=>qw (sN.bits (YQ (hf a ha) hB1 (jF (hB2 a ha)))) (by decide)
 obtain⟨r,g,e,hg,hr,hp⟩:=wC (n:=n) (f:=λi=>jx (f i) (xK ((List.range n).map f))) (by omega) bt;have hg':(g:Rat)≠0:=ja hg;have hB':((xK ((List.range n).map f):Nat):Rat)≠0:=ja hB0
 refine⟨r,(xK ((List.range n).map f):Nat) / (g:Rat),vA rfl (jH ((yY (zj (zS ((yY (zj rfl (zj ((zb rfl).trans eb) rfl))).trans et)) rfl)).trans e)),?_,λi hi=>?_,hp⟩
 ·intro z;have h1:(xK ((List.range n).map f):Nat) / (g:Rat)*(g:Rat)=((xK ((List.range n).map f):Nat):Rat):=g0 hg';rw[z,kK] at h1;exact hB' h1.symm
 ·have h1:((jx (f i) (xK ((List.range n).map f)):Int):Rat)=(g:Rat)*(r i:Rat):=by
   rw[hr i hi,ki,kh]
  rw[jF (hB2 i hi)] at h1;grind
def zi4{n M N:Nat}{f:Q1x}(hn:n<=42)(hM:0<M)(sM:Sz M)(sN:Sz N)(hf:∀i,i<n->InB M N (f i)):∃(r:Z1x)(c:Rat),xM [yr n f]=some (xg n r)/\c≠0/\(∀i,i<n->(r i:Rat)=c*f i)/\Prim n r:=zlq (t:=true) hn hM sM sN hf
def zjs{n k:Nat}{f:Q1x}(hn:n<=42)(hk:k<=399)(hf:∀i,i<n->Sk k (f i)):∃(r:Z1x)(c:Rat),xM [yr n f]=some (xg n r)/\c≠0/\(∀i,i<n->(r i:Rat)=c*f i)/\Prim n r:=zi4 hn (yq k) (sz6 (by omega)) (Sz.Ui (by omega)) hf
def zdf{n i:Nat}(hn:n<=1000)(hi:i<n):vT [zF i,zF n]=some (xg n (xt i)):=by
 refine vA rfl ?_;refine(zv (yI (zfO (n:=n) (d:=.int 0) (Uc rfl (by decide)) rfl hn))).trans ((zv (zfD (a:=i) (ds:=(List.range n).map λ_=>.int 0) rfl rfl rfl (by simpa using hi))).trans (jH ?_));show some (((List.range n).map λ_=>PyData.int 0).set i (.int 1))=some (xg n (xt i))
 congr 1
 refine gT λj=>?_
 unfold xg;rw[gC,qq,qq,qe,qu];by_cases h:i=j
 ·subst h;rw[qj rfl,qj hi,kd hi];simp[xt]
 ·rw[qo h];by_cases hj:j<n
  ·rw[kd hj];simp[xt,gG h]
  ·rw[kJ (by simpa using hj)];rfl
def zdM{n:Nat}{c g:Z1x}{p s d:Int}(hn:n<=1000)(hp:intBits p<=1000000)(hs:intBits s<=1000000)(hc:∀x,x<n->intBits (c x)<=1000000)(hg:∀x,x<n->intBits (g x)<=1000000)(hd:d≠0)(hd2:d.natAbs.log2<9000):Jj [yi n c,.int s,yi n g,.int p,.int d]=some (xg n (nar p d s g c)):=by
 refine vA rfl (jH ?_);refine zU (xs:=List.range n) (e:=λi=>.tuple [.int (c i),.int (g i)]) (d:=λi=>.int (nar p d s g c i)) ((zfK rfl).trans (qR some (JT _ _ n))) (by simpa using qw hn (by decide)) λi hi=>?_
 have hi:=qE.mp hi;exact JX.trans ((zd ((zd ((zd rfl rfl).trans (yV (jf hp (hc i hi) (by omega)))) ((zd rfl rfl).trans (yV (jf hs (hg i hi) (by omega))))).trans rfl) rfl).trans (jd hd hd2))
theorem zdS:∀ns:List Int,PyData.canLayAll0 (ns.map .int)=true/\PyData.depthAll (ns.map .int)=0
 |[]=>⟨rfl,rfl⟩
 |n::ns=>by
  have⟨a,b⟩:=zdS ns;constructor
  ·show(true&&PyData.canLayAll0 (ns.map .int))=true
   rw[a];rfl
  ·show max 0 (PyData.depthAll (ns.map .int))=0
   rw[b];rfl
def shaped_ints(ns:List Int):SeqAt.shaped (.list (ns.map .int))=true/\SeqAt.shaped (.tuple (ns.map .int))=true:=by
 have⟨a,b⟩:=zdS ns;have c:PyData.canLay0 (.list (ns.map .int))=true:=a;have c':PyData.canLay0 (.tuple (ns.map .int))=true:=a
 constructor
 ·unfold SeqAt.shaped;rw[c,br];refine qG ?_;show PyData.depthAll (ns.map .int)+1<=64
  rw[b];decide
 ·unfold SeqAt.shaped;rw[c',br];refine qG ?_;show PyData.depthAll (ns.map .int)+1<=64
  rw[b];decide
theorem JL:∀ns ms:List Int,PyData.eqvAll (ns.map PyData.int) (ms.map PyData.int)=decide (ns=ms)
 |[],[]=>rfl
 |[],_::_=>rfl
 |_::_,[]=>rfl
 |n::ns,m::ms=>by
  show(PyData.eqv (.int n) (.int m)&&PyData.eqvAll (ns.map .int) (ms.map .int))=_
  rw[JL ns ms];by_cases h:n=m
  ·by_cases h2:ns=ms<;>simp[PyData.eqv,h,h2]
  ·simp[PyData.eqv,h]
def zdv(ns ms:List Int):eqD (.list (ns.map .int)) (.list (ms.map .int))=some (.bool (decide (ns=ms))):=by
 unfold eqD;rw[qj ⟨(shaped_ints ns).1,(shaped_ints ms).1⟩];show some (PyData.bool (PyData.eqvAll (ns.map .int) (ms.map .int)))=_
 rw[JL]
def zgw(ns ms:List Int):eqD (.tuple (ns.map .int)) (.tuple (ms.map .int))=some (.bool (decide (ns=ms))):=by
 unfold eqD;rw[qj ⟨(shaped_ints ns).2,(shaped_ints ms).2⟩];show some (PyData.bool (PyData.eqvAll (ns.map .int) (ms.map .int)))=_
 rw[JL]
def zhz(l:LNt):l.map zF=(l.map λi:Nat=>(i:Int)).map PyData.int:=by rw[kY];rfl
theorem vJ(x:Str)(c:Fs):∀fs:Ob,(zP x c fs).length<=fs.length+1
 |[]=>qf _
 |(y,d)::fs=>by
  unfold zP;split
  ·exact mY _
  ·exact pO (vJ x c fs)
def spO(n:Nat)(T F:LNt)(C:LZr)(d:Int):Ob:=spR (F.map zF) (T.map zF) (C.map (yi n)) (.int d)
def ziW{n:Nat}(hn:n<=1000):V8 [] [zF n]=some (.none,spO n [] (List.range n) ((List.range n).map xt) 1):=by
 refine zeu (ρ':=[.no,.pu (zF n)]) rfl ?_;show zfk [.no,.pu (zF n)] []=_
 have e1:zkG (aC (gv 1) a0) [.no,.pu (zF n)]=some ((List.range n).map zF):=by
  show(if -(2 ^ 62)<=(n:Int)/\(n:Int)<=16777216 then some (jT 0 (n:Int).toNat) else none)=_
  rw[qj (by constructor<;>omega),kf];unfold jT;congr 1;exact kC λi _=>by rw[Int.zero_add]
 have e2:zR 1 [1] (y4 (aC (gv 1) a0)) (bN 0) (yg (y3 vT (aC (gv 0) (aC (gv 1) a0)))) [.no,.pu (zF n)]=some ((List.range n).map λi=>yi n (xt i)):=jQ (n:=n) (d:=λi=>yi n (xt i)) rfl (by omega) λi hi=>yy.trans (zS ((yY rfl).trans (zdf hn hi)))
 have l1:=vJ "free" (.ow ((List.range n).map zF)) [];have l2:=vJ "taken" (.ow []) (zP "free" (.ow ((List.range n).map zF)) [])
 have l3:=vJ "checks" (.ow ((List.range n).map λi=>yi n (xt i))) (zP "taken" (.ow []) (zP "free" (.ow ((List.range n).map zF)) []));rw[pY] at l1;refine(yb (uP e1 (by show 0<1000;omega))).trans ?_;refine(yb (uP (ds:=[]) (Uc rfl (by decide)) (by omega))).trans ?_;refine(yb (uP (ds:=(List.range n).map λi=>yi n (xt i)) ?_ (by omega))).trans ?_
 ·exact e2
 refine(zbM (d:=.int 1) rfl (by omega)).trans ?_;rw[zni];unfold spO;rw[kY];rfl
def zbI{n:Nat}{T F:LNt}{C:LZr}{d:Int}:UX (spO n T F C d) []=some (.bool (decide (F=[])),spO n T F C d):=by
 refine US rfl (vi ?_);refine(Ja (uw Yx) rfl).trans ?_;rw[zhz];refine(zdv _ []).trans ?_;congr 2;exact nJ.mpr (by simp)
def nz:Nat->List Int->List Int
 |_,[]=>[]
 |k,x::xs=>if x=0 then nz (k+1) xs else (k:Int)::nz (k+1) xs
theorem zhc:∀(k:Nat)(xs:List Int),nz k xs=[]->∀x∈xs,x=0
 |_,[],_,x,h=>by cases h
 |k,y::xs,e,x,h=>by
  unfold nz at e;split at e
  ·rename_i hy;rcases qx.mp h with z|z
   ·rw[z];exact hy
   ·exact zhc (k+1) xs e x z
  ·cases e
theorem zfZ:∀(k:Nat)(xs:List Int),nz k xs≠[]->∃(i:Nat)(x:Int)(r:List Int),nz k xs=((k+i:Nat):Int)::r/\xs[i]?=some x/\x≠0
 |_,[],h=>absurd rfl h
 |k,y::xs,h=>by
  unfold nz at h ⊢;split
  ·rename_i hy;rw[qj hy] at h;obtain⟨i,x,r,e1,e2,e3⟩:=zfZ (k+1) xs h;exact⟨i+1,x,r,by rw[e1,show k+(i+1)=k+1+i by omega],by simpa using e2,e3⟩
  ·rename_i hy;exact⟨0,y,nz (k+1) xs,rfl,rfl,hy⟩
def zkf{α β:Type}{h:α->Option (Option β)}{d:α}{r:List α}{y:β}{ys:List β}(e1:h d=some (some y))(e2:wz h r=some ys):wz h (d::r)=some (y::ys):=by
 unfold wz;rw[e1,qp,e2];rfl
def zkD{α β:Type}{h:α->Option (Option β)}{d:α}{r:List α}{ys:List β}(e1:h d=some none)(e2:wz h r=some ys):wz h (d::r)=some ys:=by
 unfold wz;rw[e1,qp,e2];rfl
def zke{x:PdX}{r:LPd}:ixD (.list (x::r)) (.int 0)=some x:=by
 show(ixN (r.length+1) 0).bind _=_
 unfold ixN;rw[qj (by omega),qj (by omega)];rfl
def zcv{β:Type}{F:LNt}{ρ:Ro}{x y:PdX}{fe:Ro->Option β}:(b2 (bN 0) (bN 1) (.tuple [x,y]) (compEnv 2 F ρ)).bind fe=fe (.pu x::.pu y::F.map λj=>(ρ[j]?).getD .no):=rfl
theorem zfl{F:LNt}{ρ:Ro}:∀(k:Nat)(xs:List Int),wz (λd=>(b2 (bN 0) (bN 1) d (compEnv 2 F ρ)).bind λρ1=>(zG (op2 neD (gv 1) (cst (PyData.int 0))) ρ1).bind λok=>if ok then (gv 0 ρ1).map some else some none) ((xs.map PyData.int).mapIdx λi d=>.tuple [.int ((k+i:Nat):Int),d])=some ((nz k xs).map PyData.int)
 |_,[]=>rfl
 |k,x::xs=>by
  have ih:=zfl (F:=F) (ρ:=ρ) (k+1) xs;rw[gI,List.mapIdx_cons];rw[show(λ(i:Nat) (d:PdX)=>PyData.tuple [.int ((k+(i+1):Nat):Int),d])=λi d=>.tuple [.int ((k+1+i:Nat):Int),d] from funext λi=>funext λd=>by rw[show k+(i+1)=k+1+i by omega]];have e:zG (op2 neD (gv 1) (cst (PyData.int 0))) (.pu (.int ((k+0:Nat):Int))::.pu (.int x)::F.map λj=>(ρ[j]?).getD .no)=some (!decide (x=0)):=zE ((zd rfl rfl).trans (wI x 0))
  unfold nz;by_cases h:x=0
  ·rw[qj h];rw[qG h] at e;refine zkD ?_ ih;refine zcv.trans ?_;rw[e];rfl
  ·rw[qo h];rw[qM h] at e;refine zkf ?_ ih;refine zcv.trans ?_;rw[e];rfl
theorem vn{α β:Type}(f:α->β):∀(l:List α)(i:Nat),(l.map f).eraseIdx i=(l.eraseIdx i).map f
 |[],_=>by simp
 |_::_,0=>rfl
 |x::l,i+1=>by
  show f x::(l.map f).eraseIdx i=f x::(l.eraseIdx i).map f
  rw[vn f l i]
theorem zip_map{α:Type}(f g:α->PyData):∀l:List α,Jr (l.map f) (l.map g)=l.map λx=>.tuple [f x,g x]
 |[]=>rfl
 |x::l=>by
  show PyData.tuple [f x,g x]::Jr (l.map f) (l.map g)=_
  rw[zip_map f g l];rfl
def zkO{n:Nat}{c r:Z1x}(hn:n<=1000)(hc:∀x,x<n->intBits (c x)<=400000)(hr:∀x,x<n->intBits (r x)<=400000):intBits (dt n c r)<=1000000:=by
 have h:=JD (f:=λx=>c x*r x) (B:=2 ^ 800000) n λx hx=>by
  rw[kg,show 800000=400000+400000 from rfl,gQ];exact ky (nu (mX.mp (hc x hx))) (nu (mX.mp (hr x hx)))
 refine mX.mpr (qI h ?_);rw[show 1000000=10+(800000+199990) from rfl,gQ,gQ 2 800000];have h1:0<2 ^ 800000:=Nat.pow_pos (by decide);have h2:0<2 ^ 199990:=Nat.pow_pos (by decide)
 refine Nat.mul_lt_mul_of_lt_of_le (by omega) (nM _ h2) (kH h1 h2)
def zkn{n:Nat}{T F:LNt}{C:LZr}{d:Int}{r:Z1x}(hn:n<=1000)(hF:C.length=F.length)(hl:F.length<=1000)(hT:T.length<=1000)(hC:∀c∈C,∀x,x<n->intBits (c x)<=400000)(hr:∀x,x<n->intBits (r x)<=400000)(hd:d≠0)(hd2:d.natAbs.log2<9000):((∀c∈C,dt n c r=0)/\UH (spO n T F C d) [yi n r]=some (.bool false,spO n T F C d))\/
  ∃i cg g,C[i]?=some cg/\F[i]?=some g/\dt n cg r≠0/\UH (spO n T F C d) [yi n r]=some (.bool true,spO n (T++[g]) (F.eraseIdx i) ((C.eraseIdx i).map λc=>nar (dt n cg r) d (dt n c r) cg c) (dt n cg r)):=by
 have hlen:C.length<=16777216:=by omega
 have e1:ocomp 1 [1] (gsq (gg "checks")) (bN 0) (zg yd (aC (gv 0) (aC (gv 1) a0))) [.no,.pu (yi n r),.no,.no,.no,.no,.no,.no] (spO n T F C d)=some (C.map λc=>PyData.int (dt n c r)):=zhI (xs:=C) (e:=yi n) (d:=λc=>PyData.int (dt n c r)) (zmW (uw JW)) hlen λc hc=>yy.trans ((zb rfl).trans (zeV hn λx hx=>⟨qw (hC c hc x hx) (by decide),qw (hr x hx) (by decide)⟩))
 have es:(C.map λc=>PyData.int (dt n c r))=(C.map λc=>dt n c r).map PyData.int:=by rw[kY];rfl
 have e2:∀o3,YJ 2 [] (λρ x=>zfo false (aC (gb 2) a0) ρ) (b2 (bN 0) (bN 1)) (zG (op2 neD (gv 1) (cst (PyData.int 0)))) (gv 0) [.no,.pu (yi n r),.ow (C.map λc=>PyData.int (dt n c r)),o3,.no,.no,.no,.no] (spO n T F C d)=some ((nz 0 (C.map λc=>dt n c r)).map PyData.int):=λo3=>by
  unfold YJ;show((some (W9 (C.map λc=>PyData.int (dt n c r)))).bind _)=_
  rw[qp,qj (by unfold W9;rw[List.length_mapIdx,qe];exact hlen),es];unfold W9
  have:=zfl (F:=[]) (ρ:=[.no,.pu (yi n r),.ow ((C.map λc=>dt n c r).map PyData.int),o3,.no,.no,.no,.no]) 0 (C.map λc=>dt n c r);rw[show(λ(i:Nat) (d:PdX)=>PyData.tuple [.int ((0+i:Nat):Int),d])=λi d=>.tuple [.int (i:Int),d] from funext λi=>funext λd=>by rw[nr]] at this;exact this
 have e3:zG (op2 eqD (gb 3) (yg (vq a0))) [.no,.pu (yi n r),.ow (C.map λc=>PyData.int (dt n c r)),.ow ((nz 0 (C.map λc=>dt n c r)).map PyData.int),.no,.no,.no,.no]=some (decide (nz 0 (C.map λc=>dt n c r)=[])):=zE ((zd rfl rfl).trans (zdv _ []));by_cases hz:nz 0 (C.map λc=>dt n c r)=[]
 ·refine .inl ⟨λc hc=>zhc 0 _ hz _ (qT.mpr ⟨c,hc,rfl⟩),?_⟩;rw[qG hz] at e3;exact US rfl ((yb (JC e1)).trans ((yb (JC (e2 .no))).trans (WL ((zhP e3).trans (vi rfl)))))
 ·right
  have⟨i,x,rr,q1,q2,q3⟩:=zfZ 0 _ hz;rw[nr] at q1;rw[qq] at q2;have⟨cg,q4,q5⟩:=map_some q2;obtain⟨hi,_⟩:=qg.mp q4;obtain⟨g,q6⟩:∃g,F[i]?=some g:=⟨_,qk (by omega)⟩;rw[<-q5] at q3;refine⟨i,cg,g,q4,q6,q3,?_⟩;rw[qM hz] at e3;have hcg:cg∈C:=qN q4;have bd:∀c∈C,intBits (dt n c r)<=1000000:=λc hc=>zkO hn (hC c hc) hr
  refine US rfl ((yb (JC e1)).trans ((yb (JC (e2 .no))).trans ((yb ((ziS e3).trans rfl)).trans ?_)));refine(yb (uX (d:=zF i) ((zd (show gb 3 _=some (PyData.list ((nz 0 (C.map λc=>dt n c r)).map PyData.int)) from rfl) rfl).trans ?_))).trans ?_
  ·rw[q1];exact zke
  refine(yb (zlX (ds:=C.map λc=>PyData.int (dt n c r)) (j:=i) (d:=.int (dt n cg r)) rfl rfl (by rw[qe];exact hlen) (by rw[qq,q4];rfl))).trans ?_;refine(yb (zmJ (ds:=C.map (yi n)) (j:=i) (d:=yi n cg) JW rfl (by rw[qe];exact hlen) (by rw[qq,q4];rfl))).trans ?_;rw[YW,vn (yi n),vn (λc=>PyData.int (dt n c r))];have sub:∀c∈C.eraseIdx i,c∈C:=λc hc=>gV hc
  refine(yb (JC (ds:=(C.eraseIdx i).map λc=>yi n (nar (dt n cg r) d (dt n c r) cg c)) (zbm (xs:=C.eraseIdx i) (e:=λc=>.tuple [yi n c,.int (dt n c r)]) ((zmy (yN (uw JW) (yN rfl rfl))).trans (qR some (zip_map _ _ _))) (by rw[gS];split<;>omega) λc hc=>?_))).trans ?_
  ·refine JX.trans ((vw (ds:=[yi n c,.int (dt n c r),yi n cg,.int (dt n cg r),.int d]) (yN rfl (yN rfl (yN rfl (yN rfl (yN (zdJ zcL) rfl)))))).trans (zdH (zdM hn (bd cg hcg) (bd c (sub c hc)) (λx hx=>qw (hC c (sub c hc) x hx) (by decide)) (λx hx=>qw (hC cg hcg x hx) (by decide)) hd hd2)))
  refine(yb (zlW rfl (by show 4<1000;omega))).trans ?_;rw[YW];refine(yb (zbM (d:=.int (dt n cg r)) rfl (by show 4<1000;omega))).trans ?_;rw[zgP];refine(yb (zjK (ds:=F.map zF) (j:=i) (d:=zF g) (es:=T.map zF) Yx rfl (by rw[qe];omega) (by rw[qq,q6];rfl) (by rw[zcJ];exact Y1) (by rw[qe];omega))).trans ((vi rfl).trans ?_);rw[zcJ,zgf,vn];unfold spO;rw[qW,kY];rfl
def zcW(n:Nat)(st:Q3x)(g:Nat):PyData:=.list ((List.range n).map λb=>.list (xg n λa=>jx (st g a b) (x5 n (st g))))
abbrev WR:=List (List Nat×(Nat->Int))
def QL(s:Nat)(r0:Z1x)(L:WR):WR:=([],r0)::L.flatMap λq=>(List.range s).map λg=>(q.1++[g],q.2)
def W5(n:Nat)(q:List Nat×(Nat->Int)):PyData:=.tuple [yt q.1,yi n q.2]
def RO(CS:AdX)(n s:Nat)(st:Q3x)(r0:Z1x)(L:WR)(T F:LNt)(C:LZr)(d:Int)(a:Nat):Ob:=reR ((List.range s).map (zcW n st)) CS (spO n T F C d) (L.map λq=>yt q.1) (L.map λq=>yi n q.2) ((QL s r0 L).map (W5 n)) (zF a)
abbrev RSL(n s:Nat)(st:Q3x)(fi:Q1x)(L:WR)(T F:LNt)(C:LZr)(d:Int)(a:Nat):Prop:=WD.DT.RS n s st fi (L.map (·.1)) (L.map (·.2)) T F C d a
structure Bd(n s:Nat)(st:Q3x)(fi:Q1x)(k B m:Nat):Prop where
 hn:n<=42
 hs:s<=42
 hs0:0<s
 hst:∀g a b,g<s->a<n->b<n->InB k (2 ^ 3192) (st g a b)
 hk0:0<k
 hk:k<=2 ^ 3192
 hB:B<=2 ^ 4000
 hP:∀j,j<=m->(n*B) ^ j<2 ^ 9000
 hw:∀u:List Nat,(∀g∈u,g<s)->u.length<=n - 1->∃(M:Rat)(z:Z1x),M≠0/\∀x,x<n->(z x:Rat)=zN n st fi u x*M/\(z x).natAbs<=B
 hm:∀L T F C d a,RSL n s st fi L T F C d a->L.length<=m
def Sk.inb{k:Nat}{q:Rat}(h:Sk k q)(hk:k<=399):InB (6 ^ k) (2 ^ 3192) q:=InB.mono h (kv (by decide) (by omega))
def zmH{k:Nat}(hk:k<=399):6 ^ k<=2 ^ 3192:=by
 refine qw (gX (show 6<=2 ^ 3 by decide) k) ?_;rw[<-Nat.pow_mul];exact kv (by decide) (by omega)
def Wn{k:Nat}(hk:k<=2 ^ 3192):Sz k:=Sz.mono hk (Sz.Ui (by decide))
structure IV(n s:Nat)(st:Q3x)(fi:Q1x)(L:WR)(T F:LNt)(C:LZr)(d:Int)(a:Nat):Prop where
 rs:RSL n s st fi L T F C d a
 pr:∀q∈L,Prim n q.2
structure R0(n:Nat)(fi:Q1x)(r0:Z1x):Prop where
 ex:∃c:Rat,c≠0/\∀x,x<n->(r0 x:Rat)=c*fi x
 pr:Prim n r0
def zd1(s:Nat)(r0:Z1x)(L:WR):queue s (L.map (·.1))=(QL s r0 L).map (·.1):=by
 unfold queue QL;rw[gI,List.flatMap_map,List.map_flatMap];congr 2;funext q;rw[kY];rfl
def zjL(s:Nat)(r0:Z1x)(L:WR)(q:List Nat×(Nat->Int)):QL s r0 (L++[q])=QL s r0 L++(List.range s).map λg=>(q.1++[g],q.2):=by
 unfold QL;rw[pq];simp
def zf2(c:Rat):(c.num:Rat)=c*(c.den:Rat):=by
 have e:=jF (q:=c) (B:=c.den) (pN _);rw[<-e];unfold jx;rw[Nat.div_self c.den_pos];simp
def zae{n B:Nat}{r z:Z1x}{f:Q1x}{c M:Rat}(h:Prim n r)(hc:c≠0)(hr:∀x,x<n->(r x:Rat)=c*f x)(hM:M≠0)(hz:∀x,x<n->(z x:Rat)=f x*M/\(z x).natAbs<=B):∀x,x<n->(r x).natAbs<=B:=λx hx=>by
 refine qw (h.le (z:=z) (a:=c.num*(M.den:Int)) (b:=M.num*(c.den:Int)) ?_ ?_ (λi hi=>?_) x hx) (hz x hx).2
 ·have:=M.den_pos;exact g9 (λe=>hc (mZ.mp e)) (by omega)
 ·have:=c.den_pos;exact g9 (λe=>hM (mZ.mp e)) (by omega)
 ·have h1:=hr i hi;have h2:=(hz i hi).1
  have h3:=zf2 c;have h4:=zf2 M
  have h5:((c.num*(M.den:Int)*z i:Int):Rat)=((M.num*(c.den:Int)*r i:Int):Rat):=by
   rw[ki,ki,ki,ki,kh,kh,h1,h2,h3,h4];generalize (M.den:Rat)=y1;generalize (c.den:Rat)=y2;grind
  exact_mod_cast h5
section
variable{n s k B m:Nat}{st:Q3x}{fi:Q1x}{L:WR}{T F:LNt}{C:LZr}{d:Int}{a:Nat}{r0:Z1x}{CS:AdX}
def zjC{W:List (List Nat)}{Rw:LZr}(h:WD.DT.RS n s st fi W Rw T F C d a)(hs:0<s){u:LNt}(hu:(queue s W)[a]?=some u)(hF:F≠[]):u.length<n/\∀g∈u,g<s:=by
 have k:=h.rc.keep hu;refine⟨?_,k.signs hs W.length u (by rw[qz (qf _),gm];rfl)⟩
 have:=k.short hs W.length u (by rw[qz (qf _),gm];rfl);have f:=h.sp.few
 have:0<F.length:=pk.mpr hF;have l1:=h.len;have l2:=h.lenT
 omega
def IV.wlen(h:IV n s st fi L T F C d a)(hs:0<s){q:List Nat×(Nat->Int)}(hq:q∈L):q.1.length<=n - 1/\∀g∈q.1,g<s:=by
 obtain⟨i,hi⟩:=qP hq;obtain⟨hl,_⟩:=qg.mp hi;have e:(L.map (·.1))[i]?=some q.1:=by rw[qq,hi];rfl
 have h1:=h.rs.rc.short hs i q.1 e;have f:=h.rs.sp.few
 have l1:=h.rs.len;have l2:=h.rs.lenT
 rw[qe,qe] at l1;rw[qe] at l2;exact⟨by omega,h.rs.rc.signs hs i q.1 e⟩
def IV.mult(h:IV n s st fi L T F C d a){q:List Nat×(Nat->Int)}(hq:q∈L):∃c:Rat,c≠0/\∀x,x<n->(q.2 x:Rat)=c*zN n st fi q.1 x:=by
 obtain⟨i,hi⟩:=qP hq;exact h.rs.mult i q.1 q.2 (by rw[qq,hi];rfl) (by rw[qq,hi];rfl)
def IV.abs(h:IV n s st fi L T F C d a)(b:Bd n s st fi k B m){q:List Nat×(Nat->Int)}(hq:q∈L):∀x,x<n->(q.2 x).natAbs<=B:=by
 have⟨h1,h2⟩:=h.wlen b.hs0 hq;have⟨M,z,hM,hz⟩:=b.hw q.1 h2 h1;have⟨c,hc,hr⟩:=h.mult hq;exact zae (h.pr q hq) hc hr hM hz
def Bd.bits(b:Bd n s st fi k B m){x:Int}(h:x.natAbs<=B):intBits x<=4001:=jE (qI (qw h b.hB) (kS (by decide) (by decide)))
def Bd.pivot(b:Bd n s st fi k B m)(h:IV n s st fi L T F C d a):d.natAbs.log2<9000:=by
 have hd:=h.rs.sp.d0;refine(pU (by omega)).mpr (qI (h.rs.sp.WE (B:=B) ?_ ?_) (b.hP _ ?_))
 ·have:=h.rs.sp.few;omega
 ·intro r hr x hx;obtain⟨q,hq,rfl⟩:=qT.mp (kn.mp hr);exact h.abs b hq x hx
 ·rw[mv,qe];exact b.hm L T F C d a h.rs
def Bd.check(b:Bd n s st fi k B m)(h:IV n s st fi L T F C d a):∀c∈C,∀x,x<n->intBits (c x)<=400000:=λc hc x hx=>by
 obtain⟨i,hi⟩:=qP hc;have h1:=h.rs.sp.WW (B:=B) h.rs.sp.few (λr hr x hx=>by
  obtain⟨q,hq,rfl⟩:=qT.mp (kn.mp hr);exact h.abs b hq x hx) hi x hx
 have h2:(n*B) ^ (L.map (·.2)).reverse.length<2 ^ 9000:=b.hP _ (by rw[mv,qe];exact b.hm L T F C d a h.rs);refine jE (qI h1 ?_);have h3:n*(n*B) ^ (L.map (·.2)).reverse.length<=2 ^ 6*2 ^ 9000:=ky (qw b.hn (by decide)) (nu h2)
 rw[<-Nat.pow_add] at h3;exact qI h3 (kS (by decide) (by decide))
def zjP(v:LNt)(g:Nat):ixD (yt (v++[g])) (.int (-1))=some (zF g):=by
 unfold yt;rw[qW];show atI (v.map (λg:Nat=>PyData.int (g:Int))++[zF g]) (-1)=_
 unfold atI ixN;rw[qo (by omega),qy,qe,kI,qj (by omega),qp,show(-1+((v.length+1:Nat):Int)).toNat=v.length by omega,qz (by simp),qe,gm];rfl
def zdr(u:LNt):eqD (yt u) (.tuple [])=some (.bool (decide (u=[]))):=by
 have e:yt u=.tuple ((u.map λg:Nat=>(g:Int)).map PyData.int):=by unfold yt;rw[kY];rfl
 rw[e];refine(zgw _ []).trans ?_;congr 2;exact nJ.mpr (by simp)
end
theorem zfQ{bd:PyData->Ro->Option Ro}{b:OFx}:∀{ds:LPd} {ρ0:Ro} {fs0:Ob} (P:Nat->Ro->Ob->Prop),P 0 ρ0 fs0->
  (∀i d ρ fs,ds[i]?=some d->P i ρ fs->∃ρ1 ρ2 fs2,bd d ρ=some ρ1/\b ρ1 fs=some (.nx ρ2 fs2)/\P (i+1) ρ2 fs2)->∃ρ' fs',zaP bd b ds ρ0 fs0=some (.nx ρ' fs')/\P ds.length ρ' fs'
 |[],ρ0,fs0,P,h0,_=>⟨ρ0,fs0,rfl,h0⟩
 |d::r,ρ0,fs0,P,h0,h=>by
  have⟨ρ1,ρ2,fs2,e1,e2,p⟩:=h 0 d ρ0 fs0 rfl h0;obtain⟨ρ',fs',e3,p'⟩:=zfQ (ds:=r) (ρ0:=ρ2) (fs0:=fs2) (λi=>P (i+1)) p λi d ρ fs e q=>h (i+1) d ρ fs (by simpa using e) q
  refine⟨ρ',fs',?_,p'⟩;unfold zaP;rw[e1,qp,e2];exact e3
section
variable{n s k B m:Nat}{st:Q3x}{fi:Q1x}{L:WR}{T F:LNt}{C:LZr}{d:Int}{a:Nat}{r0:Z1x}{CS:AdX}
def ziX{fs:Ob}{x:PdX}:UL fs [yt [],x]=some (x,fs):=US rfl (WL ((zhP (zE ((zd rfl rfl).trans (zdr [])))).trans (vi rfl)))
def zhb(b:Bd n s st fi k B m){v:LNt}{g:Nat}{p:Z1x}{c:Rat}(hg:g<s)(hb:∀x,x<n->(p x).natAbs<=B)(hc:c≠0)(hp:∀x,x<n->(p x:Rat)=c*zN n st fi v x):∃(r:Z1x)(c':Rat),UL (RO CS n s st r0 L T F C d a) [yt (v++[g]),yi n p]=some (yi n r,RO CS n s st r0 L T F C d a)/\c'≠0/\(∀x,x<n->(r x:Rat)=c'*zN n st fi (v++[g]) x)/\Prim n r:=by
 have hn:=b.hn;obtain⟨_,w1,w2,w3⟩:=Vj (n:=n) (M:=k) (f:=st g) b.hn b.hk0 (Wn b.hk) (Wn (qf _)) (λa' b'=>b.hst g a' b' hg);have ht:∀a' b',a'<n->b'<n->(jx (st g a' b') (x5 n (st g))).natAbs<=2 ^ 3192:=λa' b' ha hb'=>YQ (b.hst g a' b' hg ha hb') w2 (jF (w3 a' b' ha hb'))
 have h8:(2:Nat) ^ 3192<=2 ^ 3192:=qf _;have e1:=ziL (n:=n) (t:=p) (c:=λa' b'=>jx (st g a' b') (x5 n (st g))) (by omega) (λa' ha=>qw (b.bits (hb a' ha)) (by decide)) λa' b' ha hb'=>qw (jE (m:=3193) (qI (qw (ht a' b' ha hb') h8) (kS (by decide) (by decide)))) (by decide)
 obtain⟨r,g',e2,hg',hr,hpr⟩:=wC (n:=n) (f:=λb'=>yo n λa'=>p a'*jx (st g a' b') (x5 n (st g))) (by omega) λb' hb'=>by
  have h1:=JD (f:=λa'=>p a'*jx (st g a' b') (x5 n (st g))) (B:=2 ^ 4000*2 ^ 3192) n λa' ha=>by
   rw[kg];exact ky (qw (hb a' ha) b.hB) (qw (ht a' b' ha hb') h8)
  refine jE (qI (qw h1 (qZ _ (show n<=2 ^ 6 by omega))) ?_);rw[<-Nat.pow_add,<-Nat.pow_add];exact kS (by decide) (by decide)
 have hL:((x5 n (st g):Nat):Rat)≠0:=ja w1;have hG:(g':Rat)≠0:=ja hg'
 refine⟨r,c*(x5 n (st g):Nat) / (g':Rat),?_,?_,λx hx=>?_,hpr⟩
 ·refine US rfl ((yb ((ziS (zE ((zd rfl rfl).trans ((zdr _).trans ?_)))).trans rfl)).trans (vi ?_))
  ·rw[qM (by simp)]
  ·refine(vw (yN (d:=.list (xg n λb'=>yo n λa'=>p a'*jx (st g a' b') (x5 n (st g)))) ((vw (yN rfl (yN (d:=zcW n st g) ((Ja (uw zdi) (y:=zF g) ((zd rfl rfl).trans (zjP v g))).trans (JM hg)) rfl))).trans (zdH e1)) rfl)).trans (zdH e2)
 ·intro z;have h1:c*(x5 n (st g):Nat) / (g':Rat)*(g':Rat)=c*((x5 n (st g):Nat):Rat):=g0 hG;rw[z,kK] at h1;rcases kP.mp h1.symm with z|z
  ·exact hc z
  ·exact hL z
 ·have h1:((yo n (λa'=>p a'*jx (st g a' x) (x5 n (st g))):Int):Rat)=led n (zN n st fi v) (st g) x*(c*(x5 n (st g):Nat)):=by
   rw[Jy];unfold led;rw[<-zM];exact zf n λa' ha=>by
    rw[ki,hp a' ha,jF (w3 a' x ha hx)];grind
  rw[hr x hx,ki,kh] at h1;rw[vS];generalize led n (zN n st fi v) (st g) x=y at h1 ⊢;generalize ((r x:Int):Rat)=y2 at h1 ⊢;grind
def zhv(u:LNt)(g:Nat)(hu:u.length<=1000):Jq (yt u) (.tuple [zF g])=some (yt (u++[g])):=by
 unfold yt;show(if (u.map (λg:Nat=>PyData.int (g:Int))).length+[zF g].length<=16777216 then _ else _)=_
 rw[qj (by rw[qe,kI];omega),qW];rfl
def zkF{ss ws rs wt:LPd}{sp:Ob}{x:PdX}{u:LNt}{r:Z1x}(hs:ss.length=s)(hs2:s<=1000)(hu:u.length<=1000)(hw:ws.length<=1000)(hr:rs.length<=1000)(hwt:wt.length<=1000000):WA (reR ss CS sp ws rs wt x) [yt u,yi n r]=some (.none,reR ss CS sp (ws++[yt u]) (rs++[yi n r]) (wt++(List.range s).map λg=>W5 n (u++[g],r)) x):=by
 obtain⟨ρ',fs',e,o,rfl,rfl⟩:=zfQ (bd:=bN 3) (b:=oap "waiting" λρ x=>xj (aC (op2 Jq (gv 1) (xj (aC (gv 3) a0))) (aC (gv 2) a0)) ρ) (ds:=jT 0 s) (ρ0:=[.no,.pu (yt u),.pu (yi n r),.no]) (fs0:=reR ss CS sp (ws++[yt u]) (rs++[yi n r]) wt x)
  (λi ρ fs=>∃o,ρ=[.no,.pu (yt u),.pu (yi n r),o]/\fs=reR ss CS sp (ws++[yt u]) (rs++[yi n r]) (wt++(List.range i).map λg=>W5 n (u++[g],r)) x) ⟨.no,rfl,by simp⟩
  (λi dd ρ fs hd ⟨o,e1,e2⟩=>by
   subst e1 e2;obtain⟨hi,rfl⟩:=zff hd;refine⟨_,_,_,rfl,zeA (d:=W5 n (u++[i],r)) UU ?_ ?_,.pu (zF i),rfl,?_⟩
   ·refine(jU (zj ((zd rfl (jU rfl (by show 1<=16777216;omega))).trans (zhv u i hu)) rfl) (by show 2<=16777216;omega))
   ·rw[qy,qe,qu];omega
   ·rw[zcC,gP,qW,gU];rfl)
 rw[show(jT 0 s).length=s by simp[jT]] at e;refine zeu (ρ':=[.no,.pu (yt u),.pu (yi n r),o]) rfl ((yb (zeA zcw rfl (by omega))).trans ?_);rw[zgV];refine(yb (zeA zcn rfl (by omega))).trans ?_;rw[zis];have e2:grn (gAC (gcall yj (gAC (gg "steps") gA0)) gA0) [.no,.pu (yt u),.pu (yi n r),.no] (reR ss CS sp (ws++[yt u]) (rs++[yi n r]) wt x)=some (jT 0 s):=by
  unfold grn;rw[yN (d:=.int (s:Int)) ((vw (yN (uw zdi) rfl)).trans (by rw[<-hs];rfl)) rfl];show(if -(2 ^ 62)<=(s:Int)/\(s:Int)<2 ^ 62 then some (jT 0 (s:Int).toNat) else none)=_
  rw[qj (by constructor<;>omega),kf]
 unfold ofor;show(grn (gAC (gcall yj (gAC (gg "steps") gA0)) gA0) [.no,.pu (yt u),.pu (yi n r),.no] (reR ss CS sp (ws++[yt u]) (rs++[yi n r]) wt x)).bind _=_
 rw[e2,qp];exact e
def zcq{la:Q1x}{k0:Nat}(b:Bd n s st fi k B m)(hf:∀i,i<n->InB k0 (2 ^ 3192) (fi i))(hk0:0<k0)(hk:k0<=2 ^ 3192):∃r0,vM CS [] [zq n s fi st la]=some (.none,RO CS n s st r0 [] [] (List.range n) ((List.range n).map xt) 1 0)/\R0 n fi r0:=by
 have hn:=b.hn;have hs:=b.hs
 obtain⟨r0,c,e0,hc,hr,hp⟩:=zi4 b.hn hk0 (Wn hk) (Wn (qf _)) hf;refine⟨r0,?_,⟨c,hc,hr⟩,hp⟩;refine zeu (ρ':=[.no,.pu (zq n s fi st la)]) rfl ?_;show zfL CS [.no,.pu (zq n s fi st la)] []=_
 have e1:zR 1 [] (yw (op2 ixD (gv 1) (cst (PyData.int 1)))) (bN 0) (op2 ixD (zg vH (aC (gv 0) a0)) (cst (PyData.int 0))) [.no,.pu (zq n s fi st la)]=some ((List.range s).map (zcW n st)):=by
  refine zU (xs:=List.range s) (e:=λg=>yE n (st g)) (d:=zcW n st) (v8 ((zd rfl rfl).trans jW)) (by rw[qu];omega) λg hg=>?_
  obtain⟨w0,_⟩:=Vj (n:=n) (M:=k) (f:=st g) b.hn b.hk0 (Wn b.hk) (Wn (qf _)) (λa' b'=>b.hst g a' b' (qE.mp hg));exact yy.trans ((zd ((zb rfl).trans w0) rfl).trans rfl)
 have e2:fnw V8 (aC (zg yj (aC (op2 ixD (gv 1) (cst (PyData.int 0))) a0)) a0) [.no,.pu (zq n s fi st la)]=some (spO n [] (List.range n) ((List.range n).map xt) 1):=by
  unfold fnw;rw[show aC (zg yj (aC (op2 ixD (gv 1) (cst (PyData.int 0))) a0)) a0 [.no,.pu (zq n s fi st la)]=some [zF n] from zj ((zb (zj ((zd rfl rfl).trans jY) rfl)).trans (x9 n _)) rfl,qp,ziW (by omega)]
 have l1:=vJ "steps" (.ow ((List.range s).map (zcW n st))) [];rw[pY] at l1;refine(yb (uP (ds:=(List.range s).map (zcW n st)) ?_ (by show 0<1000;omega))).trans ?_
 ·exact e1
 have l2:=vJ "span" (.ob CS (spO n [] (List.range n) ((List.range n).map xt) 1)) (zP "steps" (.ow ((List.range s).map (zcW n st))) []);refine(yb (zjT (gs:=spO n [] (List.range n) ((List.range n).map xt) 1) ?_ (by omega))).trans ?_
 ·exact e2
 generalize eF:zP "span" (.ob CS (spO n [] (List.range n) ((List.range n).map xt) 1)) (zP "steps" (.ow ((List.range s).map (zcW n st))) [])=fs1 at l2 ⊢;have l3:=vJ "words" (.ow []) fs1;refine(yb (uP (ds:=[]) (Uc rfl (by decide)) (by omega))).trans ?_;have l4:=vJ "rows" (.ow []) (zP "words" (.ow []) fs1)
 refine(yb (uP (ds:=[]) (Uc rfl (by decide)) (by omega))).trans ?_;have l5:=vJ "waiting" (.ow [W5 n ([],r0)]) (zP "rows" (.ow []) (zP "words" (.ow []) fs1));refine(yb (uP (ds:=[W5 n ([],r0)]) (Uc (zj (jU (zj (jU rfl (by show 0<=16777216;omega)) (zj ((zb (zj ((zd rfl rfl).trans jY) rfl)).trans (zdH e0)) rfl)) (by show 2<=16777216;omega)) rfl) (by show 1<=16777216;omega)) (by omega))).trans ?_;refine(zbM (d:=.int 0) rfl (by omega)).trans ?_;rw[<-eF,zmU];rfl
end
abbrev zku(CS:AdX):Ro->Ob->Option (Bool×Ob):=(gaF (gtF (gbo (gop (ze2 λi j=>decide (i<j)) (gf "asked") (gcall yj (gAC (gg "waiting") gA0))))) (gnF (gvF (gmn CS "span" "full" UX gA0))))
abbrev zj2(CS:AdX):OFx:=(osq (oset 1 (gop ixD (gop ixD (gg "waiting") (gf "asked")) λρ x=>cst (PyData.int 0) ρ)) (osq (osm 2 (gms "row_led_on" UL (gAC (λρ x=>gv 1 ρ) (gAC (gop ixD (gop ixD (gg "waiting") (gf "asked")) λρ x=>cst (PyData.int 1) ρ) gA0)))) (osq (ofl "asked" (gop xD (gf "asked") λρ x=>cst (PyData.int 1) ρ)) (zah (gvF (gmn CS "span" "take" UH (gAC (λρ x=>gv 2 ρ) gA0))) (osq (oex (gms "keep" WA (gAC (λρ x=>gv 1 ρ) (gAC (λρ x=>gv 2 ρ) gA0)))) (oret λρ x=>gv 2 ρ)) os0))))
abbrev zgy:Ro->Ob->Option (Bool×Ob):=(gtF λρ x=>zG (op2 WC (gv 5) (cst PyData.none)) ρ)
abbrev zgW(CS:AdX):OFx:=(osq (oif (λρ x=>zG (op2 neD (zg yd (aC (gv 5) (aC (gv 3) a0))) (cst (PyData.int 0))) ρ) (oret (gtp (gAC (gop ixD (gg "words") λρ x=>op1 zaB (cst (PyData.int 1)) ρ) (gAC (glF (gsl (gg "rows") o0 (oS (op1 zaB (cst (PyData.int 1)))))) gA0)))) os0) (osm 5 (gms "onward" (xu CS) gA0)))
section
variable{c:Ro->Ob->Option (Bool×Ob)}{b:OFx}{f:Nat}{ρ ρ2:Ro}{fs fs' fs2:Ob}{d:PdX}
def ZL{N:Nat}{mm:Ro->Ob->Nat}{r:Option Flo}(hN:mm ρ fs=N)(e:Jx c b N ρ fs=r):owh mm c b ρ fs=r:=by
 unfold owh;rw[hN];exact e
def UI(h:c ρ fs=some (false,fs')):Jx c b (f+1) ρ fs=some (.nx ρ fs'):=by unfold Jx;rw[h];rfl
def zbC(h:c ρ fs=some (true,fs'))(h2:b ρ fs'=some (.nx ρ2 fs2)):Jx c b (f+1) ρ fs=Jx c b f ρ2 fs2:=by
 rw[Jx,h,qp,qj rfl,h2]
def zhj(h:c ρ fs=some (true,fs'))(h2:b ρ fs'=some (.rt d fs2)):Jx c b (f+1) ρ fs=some (.rt d fs2):=by
 rw[Jx,h,qp,qj rfl,h2]
end
section
variable{n s k B m:Nat}{st:Q3x}{fi:Q1x}{L:WR}{T F:LNt}{C:LZr}{d:Int}{a:Nat}{r0:Z1x}{CS:AdX}
def IV.skip(h:IV n s st fi L T F C d a){u:LNt}{r:Z1x}{c:Rat}(hu:(queue s (L.map (·.1)))[a]?=some u)(hc:c≠0)(e:∀x,x<n->(r x:Rat)=c*zN n st fi u x)(hz:∀k∈C,dt n k r=0):IV n s st fi L T F C d (a+1):=⟨h.rs.skip hu hc e hz,h.pr⟩
def IV.keep(h:IV n s st fi L T F C d a){u:LNt}{r cg:Z1x}{c:Rat}{i g:Nat}(hu:(queue s (L.map (·.1)))[a]?=some u)(hc:c≠0)(e:∀x,x<n->(r x:Rat)=c*zN n st fi u x)(hr:Prim n r)(hi:C[i]?=some cg)(hg:F[i]?=some g)(hp:dt n cg r≠0):IV n s st fi (L++[(u,r)]) (T++[g]) (F.eraseIdx i) ((C.eraseIdx i).map λc=>nar (dt n cg r) d (dt n c r) cg c) (dt n cg r) (a+1):=by
 refine⟨?_,λq hq=>?_⟩
 ·have:=h.rs.keep hu hc e hi hg hp;unfold RSL;rw[qW,qW];exact this
 ·rcases qr.mp hq with z|z
  ·exact h.pr q z
  ·rw[qQ.mp z];exact hr
def ziV:(QL s r0 L).length=1+L.length*s:=by
 unfold QL;rw[qX,List.length_flatMap]
 have:(L.map λq=>((List.range s).map λg=>(q.1++[g],q.2)).length)=List.replicate L.length s:=by
  rw[List.eq_replicate_iff];exact⟨by simp,λx hx=>by
   have⟨q,_,e⟩:=qT.mp hx;rw[<-e];simp⟩
 rw[this,List.sum_replicate_nat];omega
def IV.lens(h:IV n s st fi L T F C d a):L.length=T.length/\T.length+F.length=n/\C.length=F.length:=by
 have l1:=h.rs.len;have l2:=h.rs.lenT
 rw[qe,qe] at l1;rw[qe] at l2;exact⟨l2.symm,h.rs.sp.few,h.rs.sp.lenC⟩
def Vt{ρ:Ro}:zku CS ρ (RO CS n s st r0 L T F C d a)=some (decide (a<(QL s r0 L).length)&&!decide (F=[]),RO CS n s st r0 L T F C d a):=by
 have e1:gtF (gbo (gop (ze2 λi j=>decide (i<j)) (gf "asked") (gcall yj (gAC (gg "waiting") gA0)))) ρ (RO CS n s st r0 L T F C d a)=some (decide (a<(QL s r0 L).length),RO CS n s st r0 L T F C d a):=by
  refine zcl (zls ((Ja (zdJ Z5) (y:=.int ((QL s r0 L).length:Int)) ((vw (yN (uw UU) rfl)).trans ?_)).trans ?_))
  ·show some (PyData.int (((QL s r0 L).map (W5 n)).length:Int))=_
   rw[qe]
  ·show some (PyData.bool (decide ((a:Int)<((QL s r0 L).length:Int))))=_
   congr 2
   exact nJ.mpr (by omega)
 by_cases h:a<(QL s r0 L).length
 ·rw[qG h] at e1 ⊢;refine(zmX e1).trans ((zlB (ZG (zen YB zb7 rfl zbI))).trans ?_);rw[br];show some (_,zP "span" (.ob CS (spO n T F C d)) (reR _ _ _ _ _ _ _))=_
  rw[Y2];rfl
 ·rw[qM h] at e1 ⊢;exact znc e1
def zhh(b:Bd n s st fi k B m)(z:R0 n fi r0):∀(j fuel a:Nat)(o1 o2:Sl),j<fuel->(QL s r0 L).length - a<=j->IV n s st fi L T F C d a->
  (∃a' o1' o2',Jx (zku CS) (zj2 CS) fuel [.no,o1,o2] (RO CS n s st r0 L T F C d a)=some (.nx [.no,o1',o2'] (RO CS n s st r0 L T F C d a'))/\IV n s st fi L T F C d a'/\((queue s (L.map (·.1))).length<=a'\/F=[]))\/
  ∃(a':Nat)(u:LNt)(r:Z1x)(c:Rat)(i:Nat)(cg:Z1x)(g:Nat),IV n s st fi L T F C d a'/\(queue s (L.map (·.1)))[a']?=some u/\F≠[]/\c≠0/\(∀x,x<n->(r x:Rat)=c*zN n st fi u x)/\Prim n r/\
   IV n s st fi (L++[(u,r)]) (T++[g]) (F.eraseIdx i) ((C.eraseIdx i).map λc=>nar (dt n cg r) d (dt n c r) cg c) (dt n cg r) (a'+1)/\
   Jx (zku CS) (zj2 CS) fuel [.no,o1,o2] (RO CS n s st r0 L T F C d a)=some (.rt (yi n r) (RO CS n s st r0 (L++[(u,r)]) (T++[g]) (F.eraseIdx i) ((C.eraseIdx i).map λc=>nar (dt n cg r) d (dt n c r) cg c) (dt n cg r) (a'+1))):=by
 have eql:(queue s (L.map (·.1))).length=(QL s r0 L).length:=by rw[zd1 s r0,qe]
 intro j;induction j with
 |zero=>
  intro fuel a o1 o2 hf hj h;obtain⟨f,rfl⟩:∃f,fuel=f+1:=⟨fuel - 1,by omega⟩;refine .inl ⟨a,o1,o2,UI (Vt.trans ?_),h,.inl (by omega)⟩;rw[qM (by omega),bc]
 |succ j ih=>
  intro fuel a o1 o2 hf hj h;obtain⟨f,rfl⟩:∃f,fuel=f+1:=⟨fuel - 1,by omega⟩;by_cases ha:a<(QL s r0 L).length
  ·by_cases hF:F=[]
   ·refine .inl ⟨a,o1,o2,UI (Vt.trans ?_),h,.inr hF⟩;rw[qG hF,Bool.not_true,bf]
   ·have et:zku CS [.no,o1,o2] (RO CS n s st r0 L T F C d a)=some (true,RO CS n s st r0 L T F C d a):=Vt.trans (by rw[qG ha,qM hF];rfl);obtain⟨q,hq⟩:∃q,(QL s r0 L)[a]?=some q:=⟨_,qk ha⟩;have hu:(queue s (L.map (·.1)))[a]?=some q.1:=by rw[zd1 s r0,qq,hq];rfl
    have⟨l1,l2,l3⟩:=h.lens;have hn:=b.hn;have hs:=b.hs
    have⟨u1,u2⟩:=zjC h.rs b.hs0 hu hF;have hrow:∃(r:Z1x)(c:Rat),UL (RO CS n s st r0 L T F C d a) [yt q.1,yi n q.2]=some (yi n r,RO CS n s st r0 L T F C d a)/\c≠0/\(∀x,x<n->(r x:Rat)=c*zN n st fi q.1 x)/\Prim n r:=by
     have hm:q∈QL s r0 L:=qN hq;unfold QL at hm;rcases qx.mp hm with w|w
     ·subst w;have⟨c,hc,hr⟩:=z.ex;exact⟨r0,c,ziX,hc,hr,z.pr⟩
     ·have⟨q',hq',w⟩:=pP.mp w;have⟨g,hg,w⟩:=qT.mp w;subst w;have⟨c,hc,hr⟩:=h.mult hq';exact zhb (v:=q'.1) (p:=q'.2) b (qE.mp hg) (λx hx=>h.abs b hq' x hx) hc hr
    have⟨r,c,er,hc,hr,hp⟩:=hrow;have hM:=b.hw q.1 u2 (Nat.le_sub_one_of_lt u1);have habs:∀x,x<n->(r x).natAbs<=B:=by
     obtain⟨M,zz,hM,hz⟩:=hM;exact zae hp hc hr hM hz
    have ew:∀ρ:Ro,gop ixD (gg "waiting") (gf "asked") ρ (RO CS n s st r0 L T F C d a)=some (W5 n q):=λρ=>(Ja (uw UU) (zdJ Z5)).trans (Vf (by rw[qq,hq];rfl))
    have s1:zj2 CS [.no,o1,o2] (RO CS n s st r0 L T F C d a)=zah (gvF (gmn CS "span" "take" UH (gAC (λρ x=>gv 2 ρ) gA0))) (osq (oex (gms "keep" WA (gAC (λρ x=>gv 1 ρ) (gAC (λρ x=>gv 2 ρ) gA0)))) (oret λρ x=>gv 2 ρ)) os0 [.no,.pu (yt q.1),.pu (yi n r)] (RO CS n s st r0 L T F C d (a+1)):=by
     refine(yb (uX (d:=yt q.1) ((Ja (ew _) rfl).trans rfl))).trans ?_;refine(yb (zcf (wR zmg (yN rfl (yN ((Ja (ew _) rfl).trans rfl) rfl)) er))).trans ?_;refine(yb (zbM (d:=zF (a+1)) ((Ja (zdJ Z5) rfl).trans rfl) (by show 6<1000;omega))).trans ?_;show zah _ _ _ _ (zP "asked" (.pu (zF (a+1))) (reR _ _ _ _ _ _ _))=_
     rw[zgv];rfl
    rcases zkn (n:=n) (T:=T) (F:=F) (C:=C) (d:=d) (r:=r) (by omega) l3 (by omega) (by omega) (b.check h) (λx hx=>qw (b.bits (habs x hx)) (by decide)) h.rs.sp.d0 (b.pivot h) with⟨hz,e⟩|⟨i,cg,g,hi,hg,hnz,e⟩
    ·have s2:zj2 CS [.no,o1,o2] (RO CS n s st r0 L T F C d a)=some (.nx [.no,.pu (yt q.1),.pu (yi n r)] (RO CS n s st r0 L T F C d (a+1))):=by
      refine s1.trans ((zho (ZG (zen YB zfX (yN rfl rfl) e))).trans ?_);show some (Flo.nx _ (zP "span" (.ob CS (spO n T F C d)) (reR _ _ _ _ _ _ _)))=_
      rw[Y2];rfl
     rw[zbC et s2];exact ih f (a+1) _ _ (by omega) (by omega) (h.skip hu hc hr hz)
    ·right
     refine⟨a,q.1,r,c,i,cg,g,h,hu,hF,hc,hr,hp,h.keep hu hc hr hp hi hg hnz,zhj et (s1.trans ((zi1 (ZG (zen YB zfX (yN rfl rfl) e))).trans ?_))⟩;show osq _ _ _ (zP "span" (.ob CS (spO n _ _ _ _)) (reR _ _ _ _ _ _ _))=_
     rw[Y2];have hql:(QL s r0 L).length<=1000000:=by
      rw[ziV]
      have:L.length*s<=42*42:=ky (by omega) hs;omega
     refine(yb (zmq (wR zjO (yN rfl (yN rfl rfl)) (zkF (s:=s) (by simp) (by omega) (by omega) (by rw[qe];omega) (by rw[qe];omega) (by rw[qe];exact hql))))).trans ((vi rfl).trans ?_);unfold RO;rw[zjL,qW,qW,qW,kY];rfl
  ·refine .inl ⟨a,o1,o2,UI (Vt.trans ?_),h,.inl (by omega)⟩;rw[qM ha,bc]
def Ua(b:Bd n s st fi k B m)(z:R0 n fi r0)(h:IV n s st fi L T F C d a):(∃a',xu CS (RO CS n s st r0 L T F C d a) []=some (.none,RO CS n s st r0 L T F C d a')/\IV n s st fi L T F C d a'/\((queue s (L.map (·.1))).length<=a'\/F=[]))\/
  ∃(a':Nat)(u:LNt)(r:Z1x)(c:Rat)(i:Nat)(cg:Z1x)(g:Nat),IV n s st fi L T F C d a'/\(queue s (L.map (·.1)))[a']?=some u/\F≠[]/\c≠0/\(∀x,x<n->(r x:Rat)=c*zN n st fi u x)/\Prim n r/\
   IV n s st fi (L++[(u,r)]) (T++[g]) (F.eraseIdx i) ((C.eraseIdx i).map λc=>nar (dt n cg r) d (dt n c r) cg c) (dt n cg r) (a'+1)/\
   xu CS (RO CS n s st r0 L T F C d a) []=some (yi n r,RO CS n s st r0 (L++[(u,r)]) (T++[g]) (F.eraseIdx i) ((C.eraseIdx i).map λc=>nar (dt n cg r) d (dt n c r) cg c) (dt n cg r) (a'+1)):=by
 have⟨l1,l2,l3⟩:=h.lens;have hn:=b.hn;have hql:(QL s r0 L).length<1000000:=by
  rw[ziV]
  have:L.length*s<=42*42:=ky (by omega) b.hs;omega
 have key:=zhh (CS:=CS) b z (QL s r0 L).length 1000000 a .no .no hql (Nat.sub_le _ _) h;generalize hN:(1000000:Nat)=N at key;rcases key with⟨a',o1,o2,e,h',hd⟩|⟨a',u,r,c,i,cg,g,h1,h2,h3,h4,h5,h6,h7,e⟩
 ·exact .inl ⟨a',US rfl ((yb (ZL hN e)).trans (vi rfl)),h',hd⟩
 ·exact .inr ⟨a',u,r,c,i,cg,g,h1,h2,h3,h4,h5,h6,h7,US rfl (WL (ZL hN e))⟩
end
def difference_eq{n m s k:Nat}{fi gi:Q1x}{st su:Q3x}{la lb:Q1x}(B:Mach m s gi su lb k)(hk:k<=400)(hn:n<=42)(hm:m<=42)(hs:s<=42):vN [zq n s fi st la,zq m s gi su lb]=some (zq (n+m) s (jn n fi gi) (jb n st su) (jn n la λi=>lb i*(-1))):=by
 refine zL rfl ((zv (zlE ((zb rfl).trans Wg))).trans (zA ((zb (zj rfl (zj (VL ((zd rfl rfl).trans jY) ((zd rfl rfl).trans jW) ((zb (zj ((zd rfl rfl).trans wB) rfl)).trans (zai (c:=-1) (by omega) (λi hi=>(B.la i hi).bq hk) ⟨by decide,by decide⟩))) rfl))).trans (zgL hn hm hs))))
def zi7{ga:OLx}{ρ:Ro}{fs:Ob}{ds:LPd}(e:ga ρ fs=some ds)(hl:ds.length<=16777216):gtp ga ρ fs=some (.tuple ds):=by unfold gtp;rw[e,qp,qj hl]
def zit{h:OPx}{ρ:Ro}{fs:Ob}{d:PdX}(e:h ρ fs=some d):ZO h ρ fs=some (.rf d):=by unfold ZO;rw[e];rfl
def zl9{f:OPx}{l h:Ro->Option (Option Int)}{ρ:Ro}{fs:Ob}{ds:LPd}{lo hi:Option Int}(e:f ρ fs=some (.list ds))(e1:l ρ=some lo)(e2:h ρ=some hi):gsl f l h ρ fs=some (cut ds lo hi):=by unfold gsl;rw[e];dsimp only;rw[e1,qp,e2];rfl
def zec{f:OLx}{ρ:Ro}{fs:Ob}{ds:LPd}(e:f ρ fs=some ds):glF f ρ fs=some (.list ds):=by unfold glF;rw[e];rfl
def zj3(xs:LPd)(x:PdX):ixD (.list (xs++[x])) (.int (-1))=some x:=by
 show atI (xs++[x]) (-1)=_
 unfold atI ixN;rw[qo (by omega),qy,kI,qj (by omega),qp,show(-1+((xs.length+1:Nat):Int)).toNat=xs.length by omega,qz (qf _),gm];rfl
def zhG(xs:LPd)(x:PdX):cut (xs++[x]) none (some (-1))=xs:=by
 unfold cut HT.sIx;dsimp only;rw[qj (by omega),qy,kI,show(-1+((xs.length+1:Nat):Int)).toNat=xs.length by omega,List.drop_zero,Nat.sub_zero,List.take_append_of_le_length (qf _),gx]
section
variable{n s k B m:Nat}{st:Q3x}{fi la:Q1x}{L:WR}{T F:LNt}{C:LZr}{d:Int}{a:Nat}{r0 rl:Z1x}{CS:AdX}
def zcE(n s:Nat)(st:Q3x)(fi la:Q1x)(L:WR):Prop:=∃T F C d a,IV n s st fi L T F C d a/\((queue s (L.map (·.1))).length<=a\/F=[])/\∀q∈L,wt n st fi la q.1=0
def zj5(n s:Nat)(st:Q3x)(fi la:Q1x)(L:WR)(u:LNt):Prop:=∃T F C d a,IV n s st fi L T F C d a/\(queue s (L.map (·.1)))[a]?=some u/\F≠[]/\(∀q∈L,wt n st fi la q.1=0)/\wt n st fi la u≠0
def zh9(b:Bd n s st fi k B m)(z:R0 n fi r0){cl:Rat}(hcl:cl≠0)(hl:∀x,x<n->(rl x:Rat)=cl*la x)(hlb:∀x,x<n->intBits (rl x)<=4000){d0 d1 d2:PdX}:∀(j fuel:Nat)(L:WR)(T F:LNt)(C:LZr)(d:Int)(a:Nat)(o:Sl),F.length<=j->j+1<fuel->IV n s st fi L T F C d a->(∀q∈L,wt n st fi la q.1=0)->
  ∃ρ1 fs1,osm 5 (gms "onward" (xu CS) gA0) [.pu d0,.pu d1,.pu d2,.pu (yi n rl),.no,o] (RO CS n s st r0 L T F C d a)=some (.nx ρ1 fs1)/\
   ((∃(L':WR)(T' F':LNt)(C':LZr)(d':Int)(a':Nat)(ρ2:Ro),Jx zgy (zgW CS) fuel ρ1 fs1=some (.nx ρ2 (RO CS n s st r0 L' T' F' C' d' a'))/\zcE n s st fi la L')\/
    (∃(L':WR)(u:LNt)(fs2:Ob),Jx zgy (zgW CS) fuel ρ1 fs1=some (.rt (.tuple [yt u,.list (L'.map λq=>yi n q.2)]) fs2)/\zj5 n s st fi la L' u)):=by
 intro j;induction j with
 |zero=>
  intro fuel L T F C d a o hF hf h h0;have hF':F=[]:=gB.mp (by omega);obtain⟨f,rfl⟩:∃f,fuel=f+1:=⟨fuel - 1,by omega⟩;rcases Ua (CS:=CS) b z h with⟨a',e,h',hd⟩|⟨a',u,r,c,i,cg,g,h1,h2,h3,_⟩
  ·exact⟨_,_,zcf (wR vO rfl e),.inl ⟨L,T,F,C,d,a',_,UI (zcl (zE rfl)),T,F,C,d,a',h',hd,h0⟩⟩
  ·exact absurd hF' h3
 |succ j ih=>
  intro fuel L T F C d a o hF hf h h0;obtain⟨f,rfl⟩:∃f,fuel=f+1:=⟨fuel - 1,by omega⟩;rcases Ua (CS:=CS) b z h with⟨a',e,h',hd⟩|⟨a',u,r,c,i,cg,g,h1,h2,h3,h4,h5,h6,h7,e⟩
  ·exact⟨_,_,zcf (wR vO rfl e),.inl ⟨L,T,F,C,d,a',_,UI (zcl (zE rfl)),T,F,C,d,a',h',hd,h0⟩⟩
  ·refine⟨_,_,zcf (wR vO rfl e),?_⟩;have hn:=b.hn;have et:zgy [.pu d0,.pu d1,.pu d2,.pu (yi n rl),.no,.pu (yi n r)] (RO CS n s st r0 (L++[(u,r)]) (T++[g]) (F.eraseIdx i) ((C.eraseIdx i).map λc=>nar (dt n cg r) d (dt n c r) cg c) (dt n cg r) (a'+1))=some (true,RO CS n s st r0 (L++[(u,r)]) (T++[g]) (F.eraseIdx i) ((C.eraseIdx i).map λc=>nar (dt n cg r) d (dt n c r) cg c) (dt n cg r) (a'+1)):=zcl (zE rfl)
   have hb:∀x,x<n->(r x).natAbs<=B:=λx hx=>h7.abs b (q:=(u,r)) (qr.mpr (.inr (qQ.mpr rfl))) x hx
   have ew:=zeV (n:=n) (f:=r) (g:=rl) (by omega) λx hx=>⟨qw (b.bits (hb x hx)) (by decide),qw (hlb x hx) (by decide)⟩
   have hv:((dt n r rl:Int):Rat)=wt n st fi la u*(c*cl):=by
    show((yo n (λx=>r x*rl x):Int):Rat)=_
    rw[Jy];unfold wt;rw[<-zM];exact zf n λx hx=>by
     rw[ki,h5 x hx,hl x hx];grind
   have ebl:zG (op2 neD (zg yd (aC (gv 5) (aC (gv 3) a0))) (cst (PyData.int 0))) [.pu d0,.pu d1,.pu d2,.pu (yi n rl),.no,.pu (yi n r)]=some (!decide (dt n r rl=0)):=zE ((zd ((zb rfl).trans ew) rfl).trans (wI _ 0));by_cases hz:dt n r rl=0
   ·rw[qG hz] at ebl;have hw0:wt n st fi la u=0:=by
     rw[hz] at hv;rcases kP.mp (show wt n st fi la u*(c*cl)=0 from hv.symm) with q|q
     ·exact q
     ·rcases kP.mp q with q|q
      ·exact absurd q h4
      ·exact absurd q hcl
    obtain⟨hi,_⟩:i<F.length/\True:=by
     refine⟨?_,trivial⟩;refine kx λq=>?_
     have hl1:=h7.lens;have hl2:=h1.lens
     rw[gS,qo q,qy,kI] at hl1;omega
    have hF1:(F.eraseIdx i).length<=j:=by rw[gS,qj hi];omega
    obtain⟨ρ1,fs1,e1,e2⟩:=ih f (L++[(u,r)]) (T++[g]) (F.eraseIdx i) _ _ (a'+1) (.pu (yi n r)) hF1 (by omega) h7 (λq hq=>by
     rcases qr.mp hq with w|w
     ·exact h0 q w
     ·rw[qQ.mp w];exact hw0)
    have eb:zgW CS [.pu d0,.pu d1,.pu d2,.pu (yi n rl),.no,.pu (yi n r)] (RO CS n s st r0 (L++[(u,r)]) (T++[g]) (F.eraseIdx i) ((C.eraseIdx i).map λc=>nar (dt n cg r) d (dt n c r) cg c) (dt n cg r) (a'+1))=some (.nx ρ1 fs1):=(yb ((ziS ebl).trans rfl)).trans e1;rcases e2 with⟨L',T',F',C',d',a2,ρ2,e3,w⟩|⟨L',u',fs2,e3,w⟩
    ·exact .inl ⟨L',T',F',C',d',a2,ρ2,(zbC et eb).trans e3,w⟩
    ·exact .inr ⟨L',u',fs2,(zbC et eb).trans e3,w⟩
   ·rw[qM hz] at ebl;refine .inr ⟨L,u,_,zhj et (WL ((zhP ebl).trans (vi ?_))),T,F,C,d,a',h1,h2,h3,h0,λq=>?_⟩
    ·refine zi7 (yN (d:=yt u) ((Ja (uw zcw) rfl).trans ?_) (yN (d:=.list (L.map λq=>yi n q.2)) ?_ rfl)) (by show 2<=16777216;omega)
     ·rw[qW];exact zj3 _ _
     ·refine(zec (zl9 (lo:=none) (hi:=some (-1)) (uw zcn) rfl rfl)).trans ?_;rw[qW];exact qR some (qR PyData.list (zhG _ _))
    ·rw[q,kK] at hv;exact hz (by exact_mod_cast hv)
def zcr{x y:PdX}{k0 l0:Nat}(hd:vN [x,y]=some (zq n s fi st la))(b:Bd n s st fi k B m)(hf:∀i,i<n->Sk k0 (fi i))(hk0:k0<=399)(hla:∀i,i<n->Sk l0 (la i))(hl0:l0<=399):(∃L,xB CS [x,y]=some (.tuple [.none,.list (L.map λq=>yi n q.2)])/\zcE n s st fi la L)\/
  ∃L u,xB CS [x,y]=some (.tuple [yt u,.list (L.map λq=>yi n q.2)])/\zj5 n s st fi la L u:=by
 obtain⟨rl,cl,el,hcl,hl,hp⟩:=zjs (n:=n) (f:=la) b.hn hl0 hla;obtain⟨r0,e0,z⟩:=zcq (CS:=CS) (la:=la) b (λi hi=>(hf i hi).inb hk0) (yq k0) (zmH hk0);have hlb:∀x,x<n->intBits (rl x)<=4000:=λx hx=>by
  have h6:0<6 ^ l0:=yq l0;refine jE (qI (zae (B:=2 ^ (8*l0)) (M:=((6 ^ l0:Nat):Rat)) (z:=λx=>jx (la x) (6 ^ l0)) hp hcl hl (ja h6) (λx hx=>⟨jF (hla x hx).den,YQ (hla x hx) (pN _) (jF (hla x hx).den)⟩) x hx) (kS (by decide) (by omega)))
 have h0:IV n s st fi [] [] (List.range n) ((List.range n).map xt) 1 0:=⟨zhZ,λq hq=>by cases hq⟩;have hn:=b.hn
 obtain⟨ρ1,fs1,e1,e2⟩:=zh9 (CS:=CS) b z hcl hl hlb (d0:=x) (d1:=y) (d2:=zq n s fi st la) n 1000 [] [] (List.range n) ((List.range n).map xt) 1 0 .no (by rw[qu];omega) (by omega) h0 (λq hq=>by cases hq);have en:fnw (vM CS) (aC (gv 2) a0) [.pu x,.pu y,.pu (zq n s fi st la),.pu (yi n rl),.no,.no]=some (RO CS n s st r0 [] [] (List.range n) ((List.range n).map xt) 1 0):=by
  unfold fnw;show(some [zq n s fi st la]).bind _=_
  rw[qp,e0]
 generalize hN:(1000:Nat)=N at e2;have start:∀res,zdQ 4 (fnw (vM CS) (aC (gv 2) a0)) (osq (osm 5 (gms "onward" (xu CS) gA0)) (osq (owh (λx x_1=>1000) zgy (zgW CS)) (ZO (gtp (gAC (λρ x=>cst PyData.none ρ) (gAC (gg "rows") gA0)))))) [.pu x,.pu y,.pu (zq n s fi st la),.pu (yi n rl),.no,.no]=some (.rt res)->xB CS [x,y]=some res:=λres e=>
  zL rfl ((zv (zD ((zb rfl).trans hd))).trans ((zv (zD ((zb (zj ((zd rfl rfl).trans wB) rfl)).trans (zdH el)))).trans e))
 rcases e2 with⟨L',T',F',C',d',a',ρ2,e3,w⟩|⟨L',u,fs2,e3,w⟩
 ·refine .inl ⟨L',start _ ?_,w⟩;unfold zdQ;rw[en,qp,qj (by show 4<6;omega)];have e4:osq (osm 5 (gms "onward" (xu CS) gA0)) (osq (owh (λx x_1=>1000) zgy (zgW CS)) (ZO (gtp (gAC (λρ x=>cst PyData.none ρ) (gAC (gg "rows") gA0))))) [.pu x,.pu y,.pu (zq n s fi st la),.pu (yi n rl),.no,.no] (RO CS n s st r0 [] [] (List.range n) ((List.range n).map xt) 1 0)=some (.rf (.tuple [.none,.list (L'.map λq=>yi n q.2)])):=by
   exact(yb e1).trans ((yb (ZL hN e3)).trans (zit (zi7 (yN rfl (yN (uw zcn) rfl)) (by show 2<=16777216;omega))))
  show(match osq _ _ [.pu x,.pu y,.pu (zq n s fi st la),.pu (yi n rl),.no,.no] _ with |some (.rt d _)=>some (Fl.rt d)|some (.rf d)=>some (.rt d)|_=>none)=_
  rw[e4]
 ·refine .inr ⟨L',u,start _ ?_,w⟩;unfold zdQ;rw[en,qp,qj (by show 4<6;omega)];have e4:osq (osm 5 (gms "onward" (xu CS) gA0)) (osq (owh (λx x_1=>1000) zgy (zgW CS)) (ZO (gtp (gAC (λρ x=>cst PyData.none ρ) (gAC (gg "rows") gA0))))) [.pu x,.pu y,.pu (zq n s fi st la),.pu (yi n rl),.no,.no] (RO CS n s st r0 [] [] (List.range n) ((List.range n).map xt) 1 0)=some (.rt (.tuple [yt u,.list (L'.map λq=>yi n q.2)]) fs2):=(yb e1).trans (WL (ZL hN e3));show(match osq _ _ [.pu x,.pu y,.pu (zq n s fi st la),.pu (yi n rl),.no,.no] _ with |some (.rt d _)=>some (Fl.rt d)|some (.rf d)=>some (.rt d)|_=>none)=_
  rw[e4]
def zj5.first{u:LNt}(h:zj5 n s st fi la L u)(hs:0<s):wt n st fi la u≠0/\u.length<n/\(∀g∈u,g<s)/\∀w,(∀g∈w,g<s)->cd s w<cd s u->wt n st fi la w=0:=by
 have⟨T,F,C,d,a,h1,h2,h3,h4,h5⟩:=h;obtain⟨w1,w2,w3⟩:=h1.rs.first (la:=la) hs h2 h3 λv hv=>by
  obtain⟨q,hq,rfl⟩:=qT.mp hv;exact h4 q hq
 exact⟨h5,w2,w3,w1⟩
end
section
variable{n s k B m:Nat}{st:Q3x}{fi la:Q1x}{r0:Z1x}{CS:AdX}
abbrev wrT(CS:AdX):Ro->Ob->Option (Bool×Ob):=zhm (gms "onward" (xu CS) gA0)
def zf4{i:Nat}{f:Ro->Option Ob}{g:OFx}{ρ:Ro}{gs fs:Ob}{d:PdX}(h1:f ρ=some gs)(hi:i<ρ.length)(h2:g (ρ.set i .no) gs=some (.rt d fs)):zdQ i f g ρ=some (.rt d):=by
 unfold zdQ;rw[h1,qp,qj hi,h2]
def zjX{y:Str}{C2:AdX}{f:Ro->Option Ob}{ρ:Ro}{gs hs:Ob}(h1:f ρ=some gs)(h2:fld y gs=some (.ob C2 hs)):zhi y C2 f ρ=some hs:=by
 unfold zhi;rw[h1,qp,h2];exact qj rfl
def zbz{h:Ro->Ob->Option (PyData×Ob)}{ρ:Ro}{fs fs':Ob}{d:PdX}(e:h ρ fs=some (d,fs')):zhm h ρ fs=some (!isNone d,fs'):=by unfold zhm;rw[e];rfl
def zkI(b:Bd n s st fi k B m)(z:R0 n fi r0){ρ:Ro}:∀(j fuel:Nat)(L:WR)(T F:LNt)(C:LZr)(d:Int)(a:Nat),F.length<=j->j<fuel->IV n s st fi L T F C d a->
  ∃L' T' F' C' d' a',Jx (wrT CS) os0 fuel ρ (RO CS n s st r0 L T F C d a)=some (.nx ρ (RO CS n s st r0 L' T' F' C' d' a'))/\IV n s st fi L' T' F' C' d' a'/\((queue s (L'.map (·.1))).length<=a'\/F'=[]):=by
 intro j;induction j with
 |zero=>
  intro fuel L T F C d a hF hf h;have hF':F=[]:=gB.mp (by omega);obtain⟨f,rfl⟩:∃f,fuel=f+1:=⟨fuel - 1,by omega⟩;rcases Ua (CS:=CS) b z h with⟨a',e,h',hd⟩|⟨a',u,r,c,i,cg,g,h1,h2,h3,_⟩
  ·exact⟨L,T,F,C,d,a',UI (zbz (wR vO rfl e)),h',hd⟩
  ·exact absurd hF' h3
 |succ j ih=>
  intro fuel L T F C d a hF hf h;obtain⟨f,rfl⟩:∃f,fuel=f+1:=⟨fuel - 1,by omega⟩;rcases Ua (CS:=CS) b z h with⟨a',e,h',hd⟩|⟨a',u,r,c,i,cg,g,h1,h2,h3,h4,h5,h6,h7,e⟩
  ·exact⟨L,T,F,C,d,a',UI (zbz (wR vO rfl e)),h',hd⟩
  ·have hi:i<F.length:=by
    refine kx λq=>?_
    have hl1:=h7.lens;have hl2:=h1.lens
    rw[gS,qo q,qy,kI] at hl1;omega
   have hF1:(F.eraseIdx i).length<=j:=by rw[gS,qj hi];omega
   obtain⟨L',T',F',C',d',a2,e2,w1,w2⟩:=ih f _ _ _ _ _ _ hF1 (by omega) h7;exact⟨L',T',F',C',d',a2,(zbC (ρ2:=ρ) (zbz (wR vO rfl e)) rfl).trans e2,w1,w2⟩
def ZM{k0:Nat}(b:Bd n s st fi k B m)(hf:∀i,i<n->InB k0 (2 ^ 3192) (fi i))(hk0:0<k0)(hk:k0<=2 ^ 3192):∃r0 L T F C d a,xY CS [zq n s fi st la]=some (RO CS n s st r0 L T F C d a)/\IV n s st fi L T F C d a/\((queue s (L.map (·.1))).length<=a\/F=[]):=by
 obtain⟨r0,e0,z⟩:=zcq (CS:=CS) (la:=la) b hf hk0 hk;have h0:IV n s st fi [] [] (List.range n) ((List.range n).map xt) 1 0:=⟨zhZ,λq hq=>by cases hq⟩;have hn:=b.hn
 obtain⟨L,T,F,C,d,a,e,h,hd⟩:=zkI (CS:=CS) b z (ρ:=[.pu (zq n s fi st la),.no]) n 1000 [] [] (List.range n) ((List.range n).map xt) 1 0 (by rw[qu];omega) (by omega) h0;refine⟨r0,L,T,F,C,d,a,?_,h,hd⟩;generalize hN:(1000:Nat)=N at e;have en:fnw (vM CS) (aC (gv 0) a0) [.pu (zq n s fi st la),.no]=some (RO CS n s st r0 [] [] (List.range n) ((List.range n).map xt) 1 0):=by
  unfold fnw;show(some [zq n s fi st la]).bind _=_
  rw[qp,e0]
 have e4:osq (owh (λ_ _=>1000) (wrT CS) os0) os0 [.pu (zq n s fi st la),.no] (RO CS n s st r0 [] [] (List.range n) ((List.range n).map xt) 1 0)=some (.nx [.pu (zq n s fi st la),.no] (RO CS n s st r0 L T F C d a)):=(yb (ZL hN e)).trans rfl;show zjl 1 _ _ [.pu (zq n s fi st la),.no]=_
 unfold zjl;rw[en,qp,qj (by show 1<2;omega)];show(match osq (owh (λ_ _=>1000) (wrT CS) os0) os0 [.pu (zq n s fi st la),.no] _ with |some (.nx _ gs')=>some gs'|_=>none)=_
 rw[e4]
end
theorem zns{bd:PyData->Ro->Option Ro}{b:Ro->Ob->Option Fl}{fs:Ob}:∀{ds:LPd} {ρ0:Ro} (P:Nat->Ro->Prop),P 0 ρ0->
  (∀i d ρ,ds[i]?=some d->P i ρ->∃ρ1 ρ2,bd d ρ=some ρ1/\b ρ1 fs=some (.nx ρ2)/\P (i+1) ρ2)->∃ρ',rF bd b fs ds ρ0=some ρ'/\P ds.length ρ'
 |[],ρ0,P,h0,_=>⟨ρ0,rfl,h0⟩
 |d::r,ρ0,P,h0,h=>by
  have⟨ρ1,ρ2,e1,e2,p⟩:=h 0 d ρ0 rfl h0;obtain⟨ρ',e3,p'⟩:=zns (ds:=r) (ρ0:=ρ2) (λi=>P (i+1)) p λi d ρ e q=>h (i+1) d ρ (by simpa using e) q
  refine⟨ρ',?_,p'⟩;unfold rF;rw[e1,qp,e2];exact e3
section
variable{ρ ρ':Ro}{fs:Ob}{f g:Ro->Ob->Option Fl}{ds es:LPd}
def zeq(h:f ρ fs=some (.nx ρ')):rsq f g ρ fs=g ρ' fs:=by unfold rsq;rw[h]
def zht{i:Nat}{h:OLx}(e:h ρ fs=some ds):zfU i h ρ fs=some (.nx (ρ.set i (.ow ds))):=by unfold zfU;rw[e];rfl
def zil{i a:Nat}{gi h:OPx}{d:PdX}(h1:gk i ρ=some ds)(h2:h ρ fs=some d)(h3:gi ρ fs=some (.int (a:Int)))(h4:a<ds.length):rsi i gi h ρ fs=some (.nx (ρ.set i (.ow (ds.set a d)))):=by
 unfold rsi znw;rw[h1,qp,h2,qp,h3];show((ixN ds.length (a:Int)).bind _).bind _=_
 unfold ixN;rw[qj (by omega),kf,qj (by omega)];rfl
def zmw{n m:Nat}{b:Ro->Ob->Option Fl}(hm:ds.length=m)(h:b (.no::(ds.map Sl.pu++List.replicate (n - (m+1)) .no)) fs=some (.rl es)):fnR n m b fs ds=some (.list es):=by
 unfold fnR;rw[qj hm,h]
def zmm{fi:Ob->Option (List PyData)}{bd:PyData->Ro->Option Ro}{b:Ro->Ob->Option Fl}(h1:fi fs=some ds)(h2:rF bd b fs ds ρ=some ρ'):rfk fi bd b ρ fs=some (.nx ρ'):=by
 unfold rfk;rw[h1,qp,h2];rfl
end
def Z8{n t:Nat}{f g:Nat->PyData}(h:∀x,x<n->x≠t->g x=f x):((List.range n).map f).set t (g t)=(List.range n).map g:=by
 refine gT λj=>?_
 rw[gC,qq,qq,qe,qu];by_cases hj:j<n
 ·rw[kd hj];by_cases e:t=j
  ·subst e;rw[qj rfl,qj hj];rfl
  ·rw[qo e];exact qR some (h j hj λq=>e q.symm).symm
 ·rw[kJ (by simpa using hj)];by_cases e:t=j
  ·subst e;rw[qj rfl,qo hj];rfl
  ·rw[qo e];rfl
def zi6{F:LNt}{C:LZr}{d:Int}{p f:Nat}{c:Z1x}(hl:F.length=C.length)(hf:f∉F)(hp:f≠p)(x:Nat):sgm (F++[f]) (C++[c]) d p x=if x=f then -(c p:Rat) / (d:Rat) else sgm F C d p x:=by
 unfold sgm;rw[List.zip_append hl,List.find?_append];by_cases e:x=f
 ·subst e;rw[qj rfl,qo hp,zdL hf];simp
 ·rw[qo e]
  have:([f].zip [c]).find? (λq=>q.1==x)=none:=by simp;exact λq=>e q.symm
  rw[this,Option.or_none]
def zei{fr tk ch:LPd}{pv:PdX}:fld "settled_row" (spR fr tk ch pv)=none:=rfl
def zef{n:Nat}{R:LZr}{T F:LNt}{C:LZr}{d:Int}(sp:WD.DT.Sp n R T F C d)(hn:n<=42)(hd:intBits d<=8999){t:Nat}(ht:t∈T):uy (spO n T F C d) [zF t]=some (yp n (sgm F C d t)):=by
 have htn:t<n:=(sp.mem t).mp (qr.mpr (.inl ht));have hfew:=sp.few
 have ndF:=sp.ndF;have hlC:=sp.lenC
 have e1:zjH (vq (aC (cst (.tuple [.int 0,.int 1])) a0)) (gop xD (gcall yj (gAC (gg "free") gA0)) (gcall yj (gAC (gg "taken") gA0))) [.no,.pu (zF t),.no,.no,.no] (spO n T F C d)=some ((List.range n).map λ_=>fr 0):=by
  have e:gop xD (gcall yj (gAC (gg "free") gA0)) (gcall yj (gAC (gg "taken") gA0)) [.no,.pu (zF t),.no,.no,.no] (spO n T F C d)=some (.int (n:Int)):=by
   refine(Ja (x:=.int (F.length:Int)) (y:=.int (T.length:Int)) ((vw (yN (uw Yx) rfl)).trans ?_) ((vw (yN (uw Y1) rfl)).trans ?_)).trans ?_
   ·show some (PyData.int ((F.map zF).length:Int))=_
    rw[qe]
   ·show some (PyData.int ((T.map zF).length:Int))=_
    rw[qe]
   ·show some (PyData.int ((F.length:Int)+(T.length:Int)))=_
    rw[<-hfew];congr 2;omega
  unfold zjH;rw[e];show(some [fr 0]).bind _=_
  rw[qp];dsimp only;rw[qj ⟨by omega,by omega,by simp;omega⟩,kf,Vu]
 have e2:((List.range n).map λ_=>fr 0).set t (fr 1)=(List.range n).map λx=>fr (sgm [] [] d t x):=by
  have:=Z8 (n:=n) (t:=t) (f:=λ_=>fr 0) (g:=λx=>fr (sgm [] [] d t x)) λx _ hx=>by
   show fr (if x=t then 1 else 0)=_
   rw[qo hx]
  rw[<-this,show sgm [] [] d t t=1 from qj rfl]
 have ez:gzf "free" "checks" (spO n T F C d)=some (Jr (F.map zF) (C.map (yi n))):=by
  unfold gzf;rw[show fld "free" (spO n T F C d)=some (.ow (F.map zF)) from Yx,show fld "checks" (spO n T F C d)=some (.ow (C.map (yi n))) from JW]
 obtain⟨ρ',er,o1,o2,rfl⟩:=zns (bd:=b2 (bN 3) (bN 4)) (b:=rsi 2 (λρ x=>gv 3 ρ) (gcall uz (gAC (λρ x=>op1 zaB (op2 ixD (gv 4) (gv 1)) ρ) (gAC (gf "pivot") gA0)))) (fs:=spO n T F C d) (ds:=Jr (F.map zF) (C.map (yi n)))
  (ρ0:=[.no,.pu (zF t),.ow ((List.range n).map λx=>fr (sgm [] [] d t x)),.no,.no]) (λi ρ=>∃o1 o2,ρ=[.no,.pu (zF t),.ow ((List.range n).map λx=>fr (sgm (F.take i) (C.take i) d t x)),o1,o2]) ⟨.no,.no,rfl⟩
  (λi dd ρ hd' ⟨o1,o2,e⟩=>by
   subst e;obtain⟨x,y,hx,hy,rfl⟩:=zdT hd';rw[qq] at hx hy;obtain⟨f,hf,rfl⟩:=map_some hx;obtain⟨c,hc,rfl⟩:=map_some hy;have⟨hfn,hfT⟩:=sp.free hf;have hi:i<F.length:=(qg.mp hf).1;have nf:f∉F.take i:=λq=>by
    obtain⟨j,hj⟩:=qP q;have hji:j<i:=by
     have:=(qg.mp hj).1;rw[kD] at this;omega
    rw[bo hji] at hj;exact zct ndF hj hf (by omega) rfl
   refine⟨_,_,rfl,zil (a:=f) (d:=fr (-(c t:Rat) / (d:Rat))) rfl ?_ rfl (by rw[qe,qu];exact hfn),.pu (zF f),.pu (yi n c),?_⟩
   ·refine(vw (yN (d:=.int (-(c t))) ((zmM (show op2 ixD (gv 4) (gv 1) [.no,.pu (zF t),.ow _,.pu (zF f),.pu (yi n c)]=some (.int (c t)) from(zd (x:=yi n c) (y:=zF t) rfl rfl).trans (JM (d:=λx=>.int (c x)) htn))).trans rfl) (yN (zdJ zcL) rfl))).trans ((WK sp.d0 hd).trans (qR (λq=>some (fr q)) ?_));rw[mE,m9]
   ·have ht2:f≠t:=λq=>hfT (q▸ht)
    rw[gR,gR,hf,hc];have hs:=zi6 (F:=F.take i) (C:=C.take i) (d:=d) (p:=t) (f:=f) (c:=c) (by rw[kD,kD,hlC]) nf ht2
    have:=Z8 (n:=n) (t:=f) (f:=λx=>fr (sgm (F.take i) (C.take i) d t x)) (g:=λx=>fr (sgm (F.take i++[f]) (C.take i++[c]) d t x)) λx _ hx=>by
     show fr (sgm (F.take i++[f]) (C.take i++[c]) d t x)=_
     rw[hs x,qo hx]
    show[Sl.no,.pu (zF t),.ow (((List.range n).map λx=>fr (sgm (F.take i) (C.take i) d t x)).set f _),.pu (zF f),.pu (yi n c)]=_
    rw[show fr (-(c t:Rat) / (d:Rat))=fr (sgm (F.take i++[f]) (C.take i++[c]) d t f) by rw[hs f,qj rfl],this];rfl)
 rw[zcA,qe,qe,hlC,Nat.min_self,gx,<-hlC,gx] at er;refine zmw rfl ?_;refine(zeq (zht e1)).trans ((zeq (zil (a:=t) (d:=fr 1) rfl rfl rfl (by rw[qe,qu];exact htn))).trans ?_);show rsq _ _ [.no,.pu (zF t),.ow (((List.range n).map λ_=>fr 0).set t (fr 1)),.no,.no] _=_
 rw[e2];exact(zeq (zmm ez er)).trans rfl
def Wh{n:Nat}{f g:Q1x}(h:∀i,i<n->f i=g i):yr n f=yr n g:=by
 unfold yr;congr 1;exact kC λi hi=>by rw[h i (qE.mp hi)]
def zgR{n:Nat}{f g:Q2x}(h:∀a b,a<n->b<n->f a b=g a b):yE n f=yE n g:=by
 unfold yE;congr 1;exact kC λa ha=>Wh λb hb=>h a b (qE.mp ha) hb
def ze4{n s:Nat}{fi fi' la la':Q1x}{st st':Q3x}(h1:∀i,i<n->fi i=fi' i)(h2:∀g a b,g<s->a<n->b<n->st g a b=st' g a b)(h3:∀i,i<n->la i=la' i):zq n s fi st la=zq n s fi' st' la':=by
 unfold zq Ws;rw[Wh h1,Wh h3,kC λg hg=>zgR λa b ha hb=>h2 g a b (qE.mp hg) ha hb]
def zgX{α:Type}(f:Nat->α)(l:LNt):l.map f=(List.range l.length).map λi=>f (l.getD i 0):=by
 refine gT λj=>?_
 rw[qq,qq];by_cases h:j<l.length
 ·rw[kd h,qk h];show some (f l[j])=some (f (l.getD j 0))
  rw[qB,qk h];rfl
 ·rw[kJ (by omega),kJ (by rw[qu];omega)];rfl
theorem zdq:∀T:List Nat,intsOf (T.map zF)=some (T.map λ(x:Nat)=>(x:Int))
 |[]=>rfl
 |x::T=>by
  show(intsOf (T.map zF)).map _=_
  rw[zdq T];rfl
def zey(T:LNt):(T.map λ(x:Nat)=>(x:Int)).map Int.toNat=T:=by
 rw[kY];conv=>rhs;rw[<-List.map_id T]
 exact kC λx _=>kf x
def srt(T:LNt):List Nat:=(isort (T.map λ(x:Nat)=>(x:Int))).map Int.toNat
def ziQ(T:LNt):(srt T).Perm T:=by
 have:=(UO (T.map λ(x:Nat)=>(x:Int))).map Int.toNat;rw[zey] at this;exact this
def zlY(T:LNt):(isort (T.map λ(x:Nat)=>(x:Int))).map PyData.int=(srt T).map zF:=by
 unfold srt;rw[kY];refine kC λx hx=>?_
 obtain⟨y,_,e⟩:=qT.mp ((UO _).mem_iff.mp hx);subst e;show PyData.int (y:Int)=.int (((y:Int).toNat:Nat):Int)
 rw[kf]
def zjt{n:Nat}{R:LZr}{T F:LNt}{C:LZr}{d:Int}{N:Nat}(h:WD.DT.Sp n R T F C d)(h1:d.natAbs<=N)(h2:∀c∈C,∀x,x<n->(c x).natAbs<=N){p:Nat}(hp:p<n)(x:Nat):InB d.natAbs N (sgm F C d p x):=by
 have d0:=h.d0;have hpos:0<d.natAbs:=by omega
 unfold sgm;split
 ·exact⟨hpos,(d.natAbs:Int),by rw[nZ,kh],by simpa using h1⟩
 ·split
  ·rename_i q hq;have hm:=(ng (List.mem_of_find?_eq_some hq)).2;have dz:(d:Rat)≠0:=λz=>d0 (by exact_mod_cast z)
   have hi:=nv _ dz;by_cases hd:0<=d
   ·refine⟨hpos,-(q.2 p),?_,by rw[ny];exact h2 _ hm p hp⟩;have e:((d.natAbs:Nat):Rat)=(d:Rat):=by rw[<-Rat.intCast_natCast,Int.natAbs_of_nonneg hd]
    rw[e,m9,gZ];grind
   ·refine⟨hpos,q.2 p,?_,h2 _ hm p hp⟩;have e:((d.natAbs:Nat):Rat)=-(d:Rat):=by
     rw[<-Rat.intCast_natCast,<-Rat.intCast_neg];congr 1;omega
    rw[e,gZ];grind
  ·exact InB.zero hpos
def Y4{n r:Nat}{f:Q2x}{P:Nat->Nat}{σ:Q2x}{M N M' N':Nat}(hn:n<=42)(hr:r<=42)(hP:∀i,i<r->P i<n)(hM:0<M)(sM:Sz M)(sN:Sz N)(hM':0<M')(sM':Sz M')(sN':Sz N')(hs:∀i a,i<r->InB M N (σ i a))(hf:∀a b,a<n->b<n->InB M' N' (f a b)):jw [yE n f,.list ((List.range r).map λi=>zF (P i)),.list ((List.range r).map λi=>yp n (σ i))]=some (yE r λi j=>sumTo n λa=>σ i a*f a (P j)):=by
 have hl:(List.range r).length<=16777216:=by rw[qu];omega
 refine zL rfl ?_;refine(zv (yI (d:=(List.range r).map λj=>yr n λa=>f a (P j)) ?_)).trans (zA ?_)
 ·exact zU (xs:=List.range r) (e:=λi=>zF (P i)) (jt rfl) hl λi hi=>yy.trans ((zb rfl).trans (WH (by omega) (hP i (qE.mp hi))))
 ·refine(zb (xs:=[.list ((List.range r).map λi=>yr r λj=>sumTo n λa=>σ i a*f a (P j))]) (zj (zS (zU (xs:=List.range r) (e:=λi=>yp n (σ i)) (jt rfl) hl λi hi=>?_)) rfl)).trans rfl;have hi:=qE.mp hi;refine yy.trans ((zb (xs:=[.list ((List.range r).map λj=>fr (sumTo n λa=>σ i a*f a (P j)))]) (zj (zS (zU (xs:=List.range r) (e:=λj=>yr n λa=>f a (P j)) (jt rfl) hl λj hj=>?_)) rfl)).trans rfl);have hj:=qE.mp hj
  exact yy.trans ((zb rfl).trans (ZT (t:=false) (u:=true) hn hM sM sN hM' sM' sN' (λa _=>hs i a hi) λa ha=>hf a (P j) ha (hP j hj)))
def zlF{m:Str}{h:Ob->List PyData->Option PyData}{g:OLx}{ρ:Ro}{fs:Ob}{ds:LPd}(e2:fld m fs=none)(e3:g ρ fs=some ds):gjm m h g ρ fs=h fs ds:=by
 unfold gjm;rw[qj (by rw[e2];rfl),e3];rfl
abbrev pl(Ts:LNt):Nat->Nat:=λi=>Ts.getD i 0
abbrev sgs(F:LNt)(C:LZr)(d:Int)(Ts:LNt):Nat->Nat->Rat:=λi=>sgm F C d (Ts.getD i 0)
abbrev rcD(n s:Nat)(st:Q3x)(fi la:Q1x)(r:Nat)(P:Nat->Nat)(σ:Q2x):PyData:=zq r s (u3 P fi) (vh n P σ st) (uh n σ la)
section
variable{n s k B m:Nat}{st:Q3x}{fi la:Q1x}{CS:AdX}
def zg4{R:LZr}{T:LNt}{C:LZr}{d:Int}(sp:WD.DT.Sp n R T [] C d):(List.range n).Perm T/\T.length=n/\zq n s fi st la=rcD n s st fi la T.length (pl (List.range n)) (sgs [] C d (List.range n)):=by
 have hl:T.length=n:=by simpa using sp.few
 have hp:(List.range n).Perm T:=by
  have nd:=sp.nd;rw[kj] at nd;rw[ba nN nd];intro x
  have:=sp.mem x;rw[kj] at this;rw[this,qE]
 have g:∀i,i<n->(List.range n).getD i 0=i:=λi hi=>by
  rw[qB,kd hi];rfl
 refine⟨hp,hl,?_⟩;rw[hl];have pick:∀i (u:Q1x),i<n->sumTo n (λa=>sgm [] C d ((List.range n).getD i 0) a*u a)=u i:=λi u hi=>by
  rw[yR _ n hi λa _ hne=>by rw[zci (by simp),g i hi,qo hne,kK],zci (by simp),g i hi,qj rfl,nZ]
 refine ze4 (λi hi=>?_) (λq a c hq ha hc=>?_) λi hi=>?_
 ·show fi i=fi ((List.range n).getD i 0)
  rw[g i hi]
 ·show st q a c=sumTo n λx=>sgm [] C d ((List.range n).getD a 0) x*st q x ((List.range n).getD c 0)
  rw[pick a (λx=>st q x ((List.range n).getD c 0)) ha,g c hc]
 ·exact(pick i la hi).symm
def zif{F:LNt}{ρ:Ro}{x:PdX}{fe:OPx}{fs:Ob}:(bN 0 x (compEnv 1 F ρ)).bind (λρ'=>fe ρ' fs)=fe (.pu x::F.map λj=>(ρ[j]?).getD .no) fs:=rfl
def zjR{L:WR}{T F:LNt}{C:LZr}{d:Int}{a:Nat}(b:Bd n s st fi k B m)(iv:IV n s st fi L T F C d a){E:Nat}(hE:(n+1)*(n*B) ^ T.length<=E):d.natAbs<=E/\∀c∈C,∀x,x<n->(c x).natAbs<=E:=by
 have hr:∀r∈(L.map (·.2)).reverse,∀x,x<n->(r x).natAbs<=B:=λr hr x hx=>by
  obtain⟨q,hq,rfl⟩:=qT.mp (kn.mp hr);exact iv.abs b hq x hx
 have hl:(L.map (·.2)).reverse.length=T.length:=by rw[mv,qe];exact iv.lens.1
 have hfew:=iv.rs.sp.few;have h1:=iv.rs.sp.WE (B:=B) (by omega) hr
 rw[hl] at h1;refine⟨qw h1 (qw ?_ hE),λc hc x hx=>?_⟩
 ·exact mI _ (by omega)
 ·obtain⟨i,hi⟩:=qP hc;have h2:=iv.rs.sp.WW (B:=B) hfew hr hi x hx;rw[hl] at h2;exact qw h2 (qw (qZ _ (by omega)) hE)
def Z0{k0 E Ns l0 Nl:Nat}(b:Bd n s st fi k B m)(hf:∀i,i<n->InB k0 (2 ^ 3192) (fi i))(hk0:0<k0)(hk1:k0<=2 ^ 3192)(hE:∀j,j<n->j<=m->(n+1)*(n*B) ^ j<=E)(sE:Sz E)(hst:∀g a b,g<s->a<n->b<n->InB k Ns (st g a b))(sNs:Sz Ns)(hla:∀i,i<n->InB l0 Nl (la i))(hl0:0<l0)(sl0:Sz l0)(sNl:Sz Nl):∃L T F C d a Ts,IV n s st fi L T F C d a/\((queue s (L.map (·.1))).length<=a\/F=[])/\Ts.Perm T/\ug CS [zq n s fi st la]=some (rcD n s st fi la T.length (pl Ts) (sgs F C d Ts))/\
   ((T.length=n/\∀i x,i<T.length->InB 1 1 (sgs F C d Ts i x))\/(T.length<n/\∃D,0<D/\D<=E/\∀i x,i<T.length->InB D E (sgs F C d Ts i x))):=by
 obtain⟨r0,L,T,F,C,d,a,e,iv,hd⟩:=ZM (CS:=CS) (la:=la) b hf hk0 hk1;have hn:=b.hn;have hs:=b.hs
 have hfew:=iv.rs.sp.few;have en:zhi "span" CS (zfP (xY CS) (aC (gv 0) a0)) [.pu (zq n s fi st la),.no,.no,.no,.no,.no,.no]=some (spO n T F C d):=zjX (show zfP (xY CS) (aC (gv 0) a0) _=_ from e) YB
 by_cases hF:F=[]
 ·subst hF;obtain⟨hp,hl,hD⟩:=zg4 (s:=s) (st:=st) (fi:=fi) (la:=la) iv.rs.sp;refine⟨L,T,[],C,d,a,List.range n,iv,hd,hp,?_,.inl ⟨hl,λi x _=>?_⟩⟩
  ·rw[<-hD];refine zL (d:=zq n s fi st la) rfl ?_;exact zf4 en (by show 1<7;omega) (WL ((zi1 (ZG ((wR zb7 rfl zbI).trans (by rw[qG rfl])))).trans (vi rfl)))
  ·show InB 1 1 (sgm [] C d _ x)
   rw[zci (by simp)];split
   ·exact⟨by decide,1,by rw[nZ];rfl,by decide⟩
   ·exact InB.zero (by decide)
 ·have hTn:T.length<n:=by
   have:0<F.length:=pk.mpr hF;omega
  have hTm:=b.hm L T F C d a iv.rs;rw[iv.lens.1] at hTm;obtain⟨z1,z2⟩:=zjR b iv (hE _ hTn hTm);have hsp:=iv.rs.sp
  have d0:=hsp.d0;have hpm:=ziQ T
  have hlen:(srt T).length=T.length:=hpm.length_eq;have mT:∀i,i<T.length->(srt T).getD i 0∈T:=λi hi=>by
   rw[qB,qk (by omega)];exact hpm.mem_iff.mp (gy _)
  have hP:∀i,i<T.length->(srt T).getD i 0<n:=λi hi=>(hsp.mem _).mp (qr.mpr (.inl (mT i hi)))
  have hσ:∀i x,i<T.length->InB d.natAbs E (sgs F C d (srt T) i x):=λi x hi=>zjt hsp z1 z2 (hP i hi) x
  have hD0:0<d.natAbs:=by omega
  have sD:Sz d.natAbs:=Sz.mono z1 sE;have bd:intBits d<=8999:=qw (sE.bits z1) (by decide)
  refine⟨L,T,F,C,d,a,srt T,iv,hd,hpm,?_,.inr ⟨hTn,d.natAbs,hD0,z1,hσ⟩⟩;have hl:(List.range T.length).length<=16777216:=by rw[qu];omega
  have ePl:gsrt (gg "taken") [.pu (zq n s fi st la),.no,.no,.no,.no,.no,.no] (spO n T F C d)=some ((List.range T.length).map λi=>zF ((srt T).getD i 0)):=by
   unfold gsrt;rw[show gg "taken" [.pu (zq n s fi st la),.no,.no,.no,.no,.no,.no] (spO n T F C d)=some (.list (T.map zF)) from uw Y1];show(intsOf (T.map zF)).bind _=_
   rw[zdq,qp,qj (by rw[qe];omega),zlY,zgX zF (srt T),hlen]
  generalize hp1:PyData.list ((List.range T.length).map λi=>zF ((srt T).getD i 0))=pD;generalize hq1:PyData.list ((List.range T.length).map λi=>yp n (sgs F C d (srt T) i))=qD;have eSh:UR 1 [1] (λρ x=>yw (gv 2) ρ) (bN 0) (gjm "settled_row" uy (gAC (λρ x=>gv 0 ρ) gA0)) [.pu (zq n s fi st la),.no,.pu pD,.no,.no,.no,.no] (spO n T F C d)=some ((List.range T.length).map λi=>yp n (sgs F C d (srt T) i)):=by
   refine zbm (xs:=List.range T.length) (e:=λi=>zF ((srt T).getD i 0)) (jt (by rw[<-hp1];rfl)) hl λi hi=>?_
   refine zif.trans ((zlF (ds:=[zF ((srt T).getD i 0)]) zei ?_).trans (zef hsp hn bd (mT i (qE.mp hi))));rfl
  have eFi:zg zW (aC (yg (zR 1 [0] (yw (gv 2)) (bN 0) (op2 ixD (op2 ixD (gv 1) (cst (.int 0))) (gv 0)))) a0) [.pu (zq n s fi st la),.no,.pu pD,.pu qD,.no,.no,.no]=some (yr T.length (u3 (pl (srt T)) fi)):=by
   refine(zb (xs:=[.list ((List.range T.length).map λi=>fr (fi ((srt T).getD i 0)))]) (zj (zS (zU (xs:=List.range T.length) (e:=λi=>zF ((srt T).getD i 0)) (jt (by rw[<-hp1];rfl)) hl λi hi=>?_)) rfl)).trans rfl;exact yy.trans ((zd ((zd rfl rfl).trans jY) rfl).trans (uf (t:=true) (hP i (qE.mp hi))))
  have eSt:∀o,zg zW (aC (yg (zR 1 [2,3] (yw (op2 ixD (gv 0) (cst (.int 1)))) (bN 0) (zg jw (aC (gv 0) (aC (gv 1) (aC (gv 2) a0)))))) a0) [.pu (zq n s fi st la),.no,.pu pD,.pu qD,o,.no,.no]=some (Ws T.length s (vh n (pl (srt T)) (sgs F C d (srt T)) st)):=λo=>by
   refine(zb (xs:=[.list ((List.range s).map λg=>yE T.length (vh n (pl (srt T)) (sgs F C d (srt T)) st g))]) (zj (zS (zU (xs:=List.range s) (e:=λg=>yE n (st g)) (v8 ((zd rfl rfl).trans jW)) (by rw[qu];omega) λg hg=>?_)) rfl)).trans rfl;refine yy.trans ((zb rfl).trans ?_);show jw [yE n (st g),pD,qD]=_
   rw[<-hp1,<-hq1];exact Y4 hn (by omega) hP hD0 sD sE b.hk0 (Wn b.hk) sNs hσ λx y hx hy=>hst g x y (qE.mp hg) hx hy
  have eLa:∀o o',zg zW (aC (yg (zR 1 [0] (yw (gv 3)) (bN 0) (zg vW (aC (gv 0) (aC (op2 ixD (gv 1) (cst (.int 2))) a0))))) a0) [.pu (zq n s fi st la),.no,.pu pD,.pu qD,o,o',.no]=some (yr T.length (uh n (sgs F C d (srt T)) la)):=λo o'=>by
   refine(zb (xs:=[.list ((List.range T.length).map λi=>fr (uh n (sgs F C d (srt T)) la i))]) (zj (zS (zU (xs:=List.range T.length) (e:=λi=>yp n (sgs F C d (srt T) i)) (jt (by rw[<-hq1];rfl)) hl λi hi=>?_)) rfl)).trans rfl;exact yy.trans ((zb (zj rfl (zj ((zd rfl rfl).trans wB) rfl))).trans (ZT (t:=false) (u:=true) hn hD0 sD sE hl0 sl0 sNl (λx _=>hσ i x (qE.mp hi)) hla))
  refine zL rfl ?_;refine zf4 (fs:=spO n T F C d) en (by show 1<7;omega) ?_;refine(yb ((zho (ZG ((wR zb7 rfl zbI).trans (by rw[qM hF])))).trans rfl)).trans ?_;refine(yb (uX (d:=pD) ((zec ePl).trans (by rw[hp1])))).trans ?_;refine(yb (uX (d:=qD) ((zec eSh).trans (by rw[hq1])))).trans ?_;refine(yb (uX eFi)).trans ((yb (uX (eSt _))).trans ((yb (uX (eLa _ _))).trans (vi ?_)));exact jU rfl (by show 3<=16777216;omega)
end
def VX{M N:Nat}{q:Rat}(h:InB M N q):((jx q M:Int):Rat)=q*((M:Nat):Rat)/\(jx q M).natAbs<=N:=⟨jF h.den,YQ h (pN _) (jF h.den)⟩
structure Szs(n s m:Nat)(st:Q3x)(fi la:Q1x)(Ms Ns Mr Nr Mc Nc E E2:Nat):Prop where
 hn:n<=42
 hs:s<=42
 hs0:0<s
 hst:∀g a b,g<s->a<n->b<n->InB Ms Ns (st g a b)
 hrow:∀u:List Nat,(∀g∈u,g<s)->u.length<=n - 1->∀x,x<n->InB Mr Nr (zN n st fi u x)
 hcol:∀u:List Nat,(∀g∈u,g<s)->u.length<=n - 1->∀x,x<n->InB Mc Nc (jK n st la u x)
 hm:∀L T F C d a,RSL n s st fi L T F C d a->L.length<=m
 p:0<Ms/\0<Mr/\0<Mc/\1<=E
 sMr:Mr<=2 ^ 3192
 sNr:Nr<=2 ^ 3192
 sMs:E*Ms<=2 ^ 3192
 sNs:n*(E*Ns)<=2 ^ 3192
 sMc:E*Mc<=2 ^ 3192
 sNc:n*(E*Nc)<=2 ^ 3192
 sN0:Ns<=2 ^ 3192
 sN1:Nc<=2 ^ 3192
 hP:∀j,j<=m->(n*Nr) ^ j<2 ^ 9000
 hE:∀j,j<n->j<=m->(n+1)*(n*Nr) ^ j<=E
 sE:Sz E
 two:∀r e,(r=n/\e=1)\/(r<n/\e=E)->r<=m->(∀j,j<=r->(r*(n*(e*Nc))) ^ j<2 ^ 9000)/\∀j,j<r->(r+1)*(r*(n*(e*Nc))) ^ j<=E2
 sE2:Sz E2
 e2:1<=E2
section
variable{n s m:Nat}{st:Q3x}{fi la:Q1x}{Ms Ns Mr Nr Mc Nc E E2:Nat}{CS:AdX}
def le3{x:Nat}(h:x<=2 ^ 3192):x<=2 ^ 4000:=qw h (kv (by decide) (by decide))
def Szs.bd(h:Szs n s m st fi la Ms Ns Mr Nr Mc Nc E E2):Bd n s st fi Ms Nr m where
 hn:=h.hn
 hs:=h.hs
 hs0:=h.hs0
 hst:=λg a b hg ha hb=>(h.hst g a b hg ha hb).mono h.sN0
 hk0:=h.p.1
 hk:=qw (mI _ h.p.2.2.2) h.sMs
 hB:=le3 h.sNr
 hP:=h.hP
 hw:=λu hg hu=>⟨((Mr:Nat):Rat),λx=>jx (zN n st fi u x) Mr,ja h.p.2.1,λx hx=>VX (h.hrow u hg hu x hx)⟩
 hm:=h.hm
def Ul(h:Szs n s m st fi la Ms Ns Mr Nr Mc Nc E E2):∃L T F C d a Ts L' T' F' C' d' a' Ts',IV n s st fi L T F C d a/\((queue s (L.map (·.1))).length<=a\/F=[])/\Ts.Perm T/\
  IV T.length s (λg i j=>vh n (pl Ts) (sgs F C d Ts) st g j i) (uh n (sgs F C d Ts) la) L' T' F' C' d' a'/\((queue s (L'.map (·.1))).length<=a'\/F'=[])/\Ts'.Perm T'/\
  xV CS [zq n s fi st la]=some (zq T'.length s (uh T.length (sgs F' C' d' Ts') (u3 (pl Ts) fi)) (λg i j=>vh T.length (pl Ts') (sgs F' C' d' Ts') (λg i j=>vh n (pl Ts) (sgs F C d Ts) st g j i) g j i) (u3 (pl Ts') (uh n (sgs F C d Ts) la)))/\T'.length<=T.length/\T.length<=n/\(∃D,0<D/\D<=E/\∀i x,i<T.length->InB D E (sgs F C d Ts i x))/\∃D,0<D/\D<=E2/\∀i x,i<T'.length->InB D E2 (sgs F' C' d' Ts' i x):=by
 have⟨p1,p2,p3,p4⟩:=h.p;have hn:=h.hn;have hs:=h.hs
 have f0:∀i,i<n->InB Mr Nr (fi i):=λi hi=>h.hrow [] (λg hg=>by cases hg) (kE _) i hi
 have l0:∀i,i<n->InB Mc Nc (la i):=λi hi=>h.hcol [] (λg hg=>by cases hg) (kE _) i hi
 have hMc:Mc<=2 ^ 3192:=qw (mI _ p4) h.sMc;obtain⟨L,T,F,C,d,a,Ts,iv,hd,hp,e1,hσ⟩:=Z0 (CS:=CS) (E:=E) (Ns:=Ns) h.bd (λi hi=>(f0 i hi).mono h.sNr) p2 h.sMr h.hE h.sE h.hst (Wn h.sN0) l0 p3 (Wn hMc) (Wn h.sN1);have hTn:T.length<=n:=by have:=iv.rs.sp.few;omega
 have hTm:=h.hm L T F C d a iv.rs;rw[iv.lens.1] at hTm;have S:=iv.rs.sp.sh hp
 have hl:=λg x hg hx=>iv.rs.Wx h.hs0 hd g x hg hx
 obtain⟨D,e,hD0,he,he0,hDe,hx,heE⟩:∃D e,0<D/\((T.length=n/\e=1)\/(T.length<n/\e=E))/\1<=e/\D<=e/\(∀i x,i<T.length->InB D e (sgs F C d Ts i x))/\e<=E:=by
  rcases hσ with⟨q1,q2⟩|⟨q1,D,q2,q3,q4⟩
  ·exact⟨1,1,by decide,.inl ⟨q1,rfl⟩,qf _,qf _,q2,p4⟩
  ·exact⟨D,E,q2,.inr ⟨q1,rfl⟩,p4,q3,q4,qf _⟩
 have⟨t1,t2⟩:=h.two T.length e he hTm;have hDE:D<=E:=qw hDe heE;have up:∀x y z:Nat,x<=y->x*z<=y*z:=λx y z hxy=>qZ z hxy
 have kM:∀x:Nat,E*x<=2 ^ 3192->D*x<=2 ^ 3192:=λx hx=>qw (up _ _ _ hDE) hx
 have kN:∀x:Nat,n*(E*x)<=2 ^ 3192->n*(e*x)<=2 ^ 3192:=λx hx=>qw (gY _ (up _ _ _ heE)) hx
 have st2:∀g i j,g<s->i<T.length->j<T.length->InB (D*Ms) (n*(e*Ns)) (vh n (pl Ts) (sgs F C d Ts) st g j i):=λg i j hg hi hj=>
  xJ (kH hD0 p1) n λx hx'=>(hx j x hj).mul (h.hst g x _ hg hx' (S.lt i hi))
 have row2:∀u:List Nat,(∀g∈u,g<s)->u.length<=T.length - 1->∀i,i<T.length->InB (D*Mc) (n*(e*Nc)) (zN T.length (λg i j=>vh n (pl Ts) (sgs F C d Ts) st g j i) (uh n (sgs F C d Ts) la) u i):=λu hg hu i hi=>by
  have e:=xA (n:=T.length) (vh n (pl Ts) (sgs F C d Ts) st) (uh n (sgs F C d Ts) la) u.reverse;rw[k8] at e;rw[e,S.col hl u.reverse (λg hg'=>hg g (kn.mp hg')) i hi];exact xJ (kH hD0 p3) n λx hx'=>(hx i x hi).mul (h.hcol u.reverse (λg hg'=>hg g (kn.mp hg')) (by rw[mv];omega) x hx')
 have b2:Bd T.length s (λg i j=>vh n (pl Ts) (sgs F C d Ts) st g j i) (uh n (sgs F C d Ts) la) (D*Ms) (n*(e*Nc)) T.length:={
  hn:=by omega
  hs:=hs
  hs0:=h.hs0
  hst:=λg i j hg hi hj=>(st2 g i j hg hi hj).mono (kN _ h.sNs)
  hk0:=kH hD0 p1
  hk:=kM _ h.sMs
  hB:=le3 (kN _ h.sNc)
  hP:=t1
  hw:=λu hg hu=>⟨((D*Mc:Nat):Rat),λx=>jx (zN T.length (λg i j=>vh n (pl Ts) (sgs F C d Ts) st g j i) (uh n (sgs F C d Ts) la) u x) (D*Mc),ja (kH hD0 p3),λx hx=>VX (row2 u hg hu x hx)⟩
  hm:=λL' T' F' C' d' a' h'=>by
   have l1:=h'.lenT;have l2:=h'.sp.few
   rw[qe] at l1;omega }
 obtain⟨L',T',F',C',d',a',Ts',iv',hd',hp',e3,hσ'⟩:=Z0 (CS:=CS) (E:=E2) (Ns:=n*(e*Ns)) (la:=u3 (pl Ts) fi) b2 (λi hi=>(row2 [] (λg hg=>by cases hg) (kE _) i hi).mono (kN _ h.sNc)) (kH hD0 p3) (kM _ h.sMc) (λj hj _=>t2 j hj) h.sE2 st2 (Wn (kN _ h.sNs)) (λi hi=>f0 _ (S.lt i hi)) p2 (Wn h.sMr) (Wn h.sNr);have hTn':T'.length<=T.length:=by have:=iv'.rs.sp.few;omega
 have e2:=zbk (n:=T.length) (s:=s) (fi:=u3 (pl Ts) fi) (st:=vh n (pl Ts) (sgs F C d Ts) st) (la:=uh n (sgs F C d Ts) la) (by omega) (by omega);have e4:=zbk (n:=T'.length) (s:=s) (fi:=u3 (pl Ts') (uh n (sgs F C d Ts) la)) (st:=vh T.length (pl Ts') (sgs F' C' d' Ts') λg i j=>vh n (pl Ts) (sgs F C d Ts) st g j i) (la:=uh T.length (sgs F' C' d' Ts') (u3 (pl Ts) fi)) (by omega) (by omega)
 refine⟨L,T,F,C,d,a,Ts,L',T',F',C',d',a',Ts',iv,hd,hp,iv',hd',hp',zL rfl (zA ((zb (zj ((zb (zj ((zb (zj ((zb rfl).trans e1) rfl)).trans e2) rfl)).trans e3) rfl)).trans e4)),hTn',hTn,⟨D,hD0,hDE,λi x hi=>(hx i x hi).mono heE⟩,?_⟩;rcases hσ' with⟨_,q2⟩|⟨_,D2,q2,q3,q4⟩
 ·exact⟨1,by decide,h.e2,λi x hi=>(q2 i x hi).mono h.e2⟩
 ·exact⟨D2,q2,q3,q4⟩
def zdu(h:Szs n s m st fi la Ms Ns Mr Nr Mc Nc E E2):∃r st' fi' la',xV CS [zq n s fi st la]=some (zq r s fi' st' la')/\r<=n/\(∀w:List Nat,(∀g∈w,g<s)->wt r st' fi' la' w=wt n st fi la w)/\
  ∀{n':Nat} {su:Q3x} {gi lb:Q1x},(∀w:List Nat,(∀g∈w,g<s)->wt n' su gi lb w=wt n st fi la w)->r<=n':=by
 obtain⟨L,T,F,C,d,a,Ts,L',T',F',C',d',a',Ts',iv,hd,hp,iv',hd',hp',e,hn1,hn2,_⟩:=Ul (CS:=CS) h;obtain⟨w1,w2⟩:=zdp (iv.rs.mn (la:=la) h.hs0 hd hp) (iv'.rs.mn (la:=u3 (pl Ts) fi) h.hs0 hd' hp');exact⟨T'.length,_,_,_,e,qw hn1 hn2,w1,λhw=>w2 hw⟩
def zkK(h:Szs n s m st fi la Ms Ns Mr Nr Mc Nc E E2):∃r:Nat,Jz CS [zq n s fi st la]=some (.int (r:Int))/\(∃st' fi' la',xV CS [zq n s fi st la]=some (zq r s fi' st' la')/\∀w:List Nat,(∀g∈w,g<s)->wt r st' fi' la' w=wt n st fi la w)/\
  ∀{n':Nat} {su:Q3x} {gi lb:Q1x},(∀w:List Nat,(∀g∈w,g<s)->wt n' su gi lb w=wt n st fi la w)->r<=n':=by
 obtain⟨r,st',fi',la',e,_,w1,w2⟩:=zdu (CS:=CS) h;exact⟨r,zL rfl (zA ((zb (zj ((zd ((zb rfl).trans e) rfl).trans jY) rfl)).trans (x9 r _))),⟨st',fi',la',e,w1⟩,w2⟩
end
end L2.Fu
namespace L2.Fu
open PySem WS WD WD.DT
def xy{a b x y z:Nat}(h1:a<=2 ^ x)(h2:b<=2 ^ y)(h:x+y<=z):a*b<=2 ^ z:=qw (ky h1 h2) (by rw[<-Nat.pow_add];exact kv (by decide) h)
def Ui{a x j z:Nat}(h1:a<=2 ^ x)(h:x*j<=z):a ^ j<=2 ^ z:=qw (gX h1 j) (by rw[<-Nat.pow_mul];exact kv (by decide) h)
def zay(k:Nat):6 ^ k<=2 ^ (3*k):=by rw[pS];exact gX (by decide) k
def lt9{x z:Nat}(h:x<=2 ^ z)(hz:z<9000):x<2 ^ 9000:=qI h (kS (by decide) hz)
section
variable{n s k:Nat}{st:Q3x}{fi la:Q1x}
def zjW{k':Nat}(hn:n<=42)(hst:∀g a b,g<s->a<n->b<n->Sk k' (st g a b))(v:LNt)(hla:∀a,a<n->Sk k (la a))(hv:∀g∈v,g<s)(a:Nat)(ha:a<n):Sk (k+v.length*(k'+1)) (jK n st la v a):=by
 rw[<-xA st la v,<-List.length_reverse];exact Ve (k:=0) hn (λg a b hg ha hb=>hst g b a hg hb ha) v.reverse k la hla (λg hg=>hv g (kn.mp hg)) a ha
def zf7{k κ K β N ε ε2:Nat}(hn:n<=N+1)(hN:N<=6)(hs:s<=42)(hs0:0<s)(hst:∀g a b,g<s->a<n->b<n->InB (6 ^ k) (2 ^ κ) (st g a b))(hrow:∀u:List Nat,(∀g∈u,g<s)->u.length<=n - 1->∀x,x<n->InB (6 ^ K) (2 ^ β) (zN n st fi u x))(hcol:∀u:List Nat,(∀g∈u,g<s)->u.length<=n - 1->∀x,x<n->InB (6 ^ K) (2 ^ β) (jK n st la u x))(hε:3+(3+β)*N=ε)(h1:(6+ε+β)*N<9000)(h2:3+(6+ε+β)*(N - 1)<=ε2)(h3:3+(6+β)*N<=ε2)(h4:(6+β)*(N+1)<9000)(h5:ε+β+3*K+3*k+κ+3<=3192)(h6:ε2<=3990):Szs n s n st fi la (6 ^ k) (2 ^ κ) (6 ^ K) (2 ^ β) (6 ^ K) (2 ^ β) (2 ^ ε) (2 ^ ε2):=by
 have n3:n<=2 ^ 3:=by omega
 have n4:n+1<=2 ^ 3:=by omega
 have le:∀x,x<=3192->(2:Nat) ^ x<=2 ^ 3192:=λx hx=>kv (by decide) hx
 have b1:n*2 ^ β<=2 ^ (3+β):=xy n3 (qf _) (qf _);have mono:∀x j i:Nat,j<=i->x*j<=x*i:=λx j i h=>gY x h
 refine⟨by omega,hs,hs0,hst,hrow,hcol,λL T F C d a h=>?_,
  ⟨yq k,yq K,yq K,Nat.one_le_two_pow⟩,qw (zay K) (le _ (by omega)),le _ (by omega),?_,?_,?_,?_,le _ (by omega),le _ (by omega),λj hj=>?_,λj hj _=>?_,Sz.Ui (by omega),λr e he _=>?_,Sz.Ui (by omega),Nat.one_le_two_pow⟩
 ·have l1:=h.lenT;have l2:=h.sp.few
  rw[qe] at l1;omega
 ·exact xy (qf _) (zay k) (by omega)
 ·exact xy n3 (xy (qf _) (qf _) (qf _)) (by omega)
 ·exact xy (qf _) (zay K) (by omega)
 ·exact xy n3 (xy (qf _) (qf _) (qf _)) (by omega)
 ·refine lt9 (Ui b1 (qf _)) (qI (mono _ _ (N+1) (by omega)) (qI (qZ _ (by omega)) h4))
 ·exact xy n4 (Ui b1 (mono _ _ N (by omega))) (by omega)
 ·rcases he with⟨rfl,rfl⟩|⟨hr,rfl⟩
  ·have b2:r*(r*(1*2 ^ β))<=2 ^ (6+β):=by
    rw[mi];exact xy n3 b1 (by omega)
   refine⟨λj hj=>lt9 (Ui b2 (qf _)) (qI (mono _ _ (N+1) (by omega)) h4),λj hj=>?_⟩;exact qw (xy n4 (Ui b2 (mono _ _ N (by omega))) (qf _)) (kv (by decide) h3)
  ·have b2:r*(n*(2 ^ ε*2 ^ β))<=2 ^ (6+ε+β):=xy (show r<=2 ^ 3 by omega) (xy n3 (xy (qf _) (qf _) (qf _)) (qf _)) (by omega);refine⟨λj hj=>lt9 (Ui b2 (qf _)) (qI (mono _ _ N (by omega)) h1),λj hj=>?_⟩;exact qw (xy (show r+1<=2 ^ 3 by omega) (Ui b2 (mono _ _ (N - 1) (by omega))) (qf _)) (kv (by decide) h2)
def zmf{K N ε ε2:Nat}(A:Mach n s fi st la k)(hn:n<=N+1)(hN:N<=6)(hs:s<=42)(hs0:0<s)(hK:k+N*(k+1)<=K)(hε:3+(3+8*K)*N=ε)(h1:(6+ε+8*K)*N<9000)(h2:3+(6+ε+8*K)*(N - 1)<=ε2)(h3:3+(6+8*K)*N<=ε2)(h4:(6+8*K)*(N+1)<9000)(h5:ε+8*K+3*K+3*k+8*k+3<=3192)(h6:ε2<=3990):Szs n s n st fi la (6 ^ k) (2 ^ (8*k)) (6 ^ K) (2 ^ (8*K)) (6 ^ K) (2 ^ (8*K)) (2 ^ ε) (2 ^ ε2):=by
 have hlen:∀l,l<=n - 1->k+l*(k+1)<=K:=λl hl=>qw (Nat.add_le_add_left (qZ _ (show l<=N by omega)) k) hK
 exact zf7 hn hN hs hs0 A.st (λu hg hu x hx=>(Ve (k:=0) (by omega) A.st u k fi A.fi hg x hx).mono (hlen _ hu)) (λu hg hu x hx=>(zjW (by omega) A.st u A.la hg x hx).mono (hlen _ hu)) hε h1 h2 h3 h4 h5 h6
def znd(A:Mach n s fi st la 2)(hn:n<=6)(hs:s<=42)(hs0:0<s):Szs n s n st fi la (6 ^ 2) (2 ^ (8*2)) (6 ^ 17) (2 ^ (8*17)) (6 ^ 17) (2 ^ (8*17)) (2 ^ 698) (2 ^ 3990):=zmf (N:=5) A hn (by decide) hs hs0 (by decide) (by decide) (by decide) (by decide) (by decide) (by decide) (by decide) (by decide)
end
end L2.Fu
namespace L2.Fu
open PySem PySem.Spec PyProof.Rows
def zad:RFx:=(sq (ifS (zG (op2 ltI (op2 ixD (gv 0) (cst (.int 0))) (cst (.int 0)))) (retS (xj (aC (op2 Yt (cst (.int 0)) (op2 ixD (gv 0) (cst (.int 1)))) (aC (op2 Yt (cst (.int 0)) (op2 ixD (gv 0) (cst (.int 0)))) a0)))) s0)
 (retS (xj (aC (op2 ixD (gv 0) (cst (.int 1))) (aC (op2 ixD (gv 0) (cst (.int 0))) a0)))))
def vX:LPx:=fnF 1 1 zad
def YO:RFx:=(sq (jc 1 (zR 1 [] (yw (gv 0)) (bN 0) (yg (y3 uB (aC (gv 0) a0)))))
 (sq (zX 2 (cst (.int 0)))
 (sq (jS (y4 (aC (ifE (zG (op2 gtI (zg yj (aC (gb 1) a0)) (cst (.int 0)))) (zg yj (aC (op2 ixD (gb 1) (cst (.int 0))) a0)) (cst (.int 0))) a0)) (bN 3) (sq (jc 4 (Jf 1 [1,3] (uk (aC (gv 2) (aC (zg yj (aC (gb 1) a0)) a0))) (bN 0) (zG (op2 neD (op2 ixD (op2 ixD (op2 ixD (gb 1) (gv 0)) (gv 2)) (cst (.int 0))) (cst (.int 0)))) (gv 0)))
 (ifS (zG (op2 gtI (zg yj (aC (gb 4) a0)) (cst (.int 0)))) (sq (zeh 5 1 (op2 ixD (gb 4) (cst (.int 0))))
 (sq (inS 1 (gv 2) (gv 5))
 (sq (jS (uk (aC (op2 xD (gv 2) (cst (.int 1))) (aC (zg yj (aC (gb 1) a0)) a0))) (bN 6) (ifS (zG (op2 neD (op2 ixD (op2 ixD (op2 ixD (gb 1) (gv 6)) (gv 3)) (cst (.int 0))) (cst (.int 0)))) (sq (zX 7 (zg yz (aC (op2 ixD (op2 ixD (gb 1) (gv 6)) (gv 3)) (aC (zg vX (aC (op2 ixD (gv 5) (gv 3)) a0)) a0))))
 (sq (zX 8 (xj (aC (op2 Yt (cst (.int 0)) (op2 ixD (gv 7) (cst (.int 0)))) (aC (op2 ixD (gv 7) (cst (.int 1))) a0))))
 (siS 1 (gv 6) (yg (zR 1 [1,5,6,8] (y4 (aC (zg yj (aC (gv 5) a0)) a0)) (bN 0) (zg xf (aC (op2 ixD (op2 ixD (gb 1) (gv 3)) (gv 0)) (aC (zg yz (aC (gv 4) (aC (op2 ixD (gv 2) (gv 0)) a0))) a0)))))))) s0))
 (zX 2 (op2 xD (gv 2) (cst (.int 1))))))) s0)))
 (retS (gv 2)))))
def uV:LPx:=fnF 9 1 YO
def Us:RFx:=(sq (ifS (zG (op2 eqD (zg yj (aC (gv 0) a0)) (cst (.int 0)))) (retS (op2 eqD (zg yj (aC (yg (Jf 1 [] (yw (gv 1)) (bN 0) (zG (op2 neD (op2 ixD (gv 0) (cst (.int 0))) (cst (.int 0)))) (gv 0))) a0)) (cst (.int 0)))) s0)
 (retS (op2 eqD (zg uV (aC (yg (zlM zhC (gv 0) (yg (vq (aC (gv 1) a0))))) a0)) (zg uV (aC (gv 0) a0)))))
def yU:LPx:=fnF 2 2 Us
def YU:RFx:=(sq (zX 2 (zg zW (aC (yg (zR 1 [] (yw (op2 ixD (gv 1) (cst (.int 2)))) (bN 0) (xj (aC (op2 Yt (cst (.int 0)) (op2 ixD (gv 0) (cst (.int 0)))) (aC (op2 ixD (gv 0) (cst (.int 1))) a0))))) a0)))
 (retS (zg xU (aC (gv 0) (aC (xj (aC (op2 ixD (gv 1) (cst (.int 0))) (aC (op2 ixD (gv 1) (cst (.int 1))) (aC (gv 2) a0)))) a0)))))
def uU:LPx:=fnF 3 2 YU
def Ya:RFx:=(sq (zX 3 (zg uU (aC (gv 0) (aC (gv 1) a0))))
 (sq (jc 4 (zR 1 [] (yw (gv 2)) (bN 0) (yg (y3 uB (aC (gv 0) a0)))))
 (sq (ifS (WT (zG (ZZ yU (aC (gb 4) (aC (yg (y3 uB (aC (op2 ixD (gv 3) (cst (.int 0))) a0))) a0))))) (retS (cst (.bool false))) s0)
 (sq (frS 4 (jS (yw (gv 4)) (bN 5) (sq (ifS (zG (op2 neD (op2 ixD (zg xp (aC (gv 5) (aC (op2 ixD (gv 3) (cst (.int 2))) a0))) (cst (.int 0))) (cst (.int 0)))) (retS (cst (.bool false))) s0)
 (jS (yw (op2 ixD (gv 3) (cst (.int 1)))) (bN 6) (ifS (WT (zG (zg yU (aC (gv 4) (aC (yg (y3 xo (aC (gv 5) (aC (gv 6) a0)))) a0))))) (retS (cst (.bool false))) s0)))))
 (retS (cst (.bool true)))))))
def wK:LPx:=fnF 7 3 Ya
end L2.Fu
namespace L2.Fu
open PySem WS WD WD.DT
open PySem.Builtin.Int (intBits)
def zna{a b:Nat}{q r:Rat}(hq:Bq a q)(hr:Bq b r):Bq (a+b) (q*r):=by
 have e:q*r=Rat.divInt (q.num*r.num) ((q.den:Int)*(r.den:Int)):=(VU q r).symm;have hd:=zd8 q r
 rw[e];exact⟨gh (zhn _ _) (mW hq.n hr.n),gh (zl7 hd) (mW hq.d hr.d)⟩
def Z6{a b:Nat}{q r:Rat}(hq:Bq a q)(hr:Bq b r)(h:a+b<=8999):xf [fr q,fr r]=some (fr (q+r)):=by
 refine zL rfl (zA ?_);have e1:op2 yB (op2 ixD (gv 0) (cst (.int 0))) (op2 ixD (gv 1) (cst (.int 1))) [.pu (fr q),.pu (fr r)]=some (.int (q.num*(r.den:Int))):=(zd (ix0 q) (ix1 r)).trans (yV (jf hq.n hr.d (by omega)));have e2:op2 yB (op2 ixD (gv 1) (cst (.int 0))) (op2 ixD (gv 0) (cst (.int 1))) [.pu (fr q),.pu (fr r)]=some (.int (r.num*(q.den:Int))):=(zd (ix0 r) (ix1 q)).trans (yV (jf hr.n hq.d (by omega)))
 have e3:op2 yB (op2 ixD (gv 0) (cst (.int 1))) (op2 ixD (gv 1) (cst (.int 1))) [.pu (fr q),.pu (fr r)]=some (.int ((q.den:Int)*(r.den:Int))):=(zd (ix1 q) (ix1 r)).trans (yV (jf hq.d hr.d (by omega)));refine(zb (zj ((zd e1 e2).trans rfl) (zj e3 rfl))).trans ?_;rw[wd (vy q r) (qw (mW hq.d hr.d) h),zd4]
def JP{a b:Nat}{q r:Rat}(hq:Bq a q)(hr:Bq b r)(h:a+b<=8999):yz [fr q,fr r]=some (fr (q*r)):=by
 refine zL rfl (zA ?_);have e1:op2 yB (op2 ixD (gv 0) (cst (.int 0))) (op2 ixD (gv 1) (cst (.int 0))) [.pu (fr q),.pu (fr r)]=some (.int (q.num*r.num)):=(zd (ix0 q) (ix0 r)).trans (yV (jf hq.n hr.n (by omega)));have e3:op2 yB (op2 ixD (gv 0) (cst (.int 1))) (op2 ixD (gv 1) (cst (.int 1))) [.pu (fr q),.pu (fr r)]=some (.int ((q.den:Int)*(r.den:Int))):=(zd (ix1 q) (ix1 r)).trans (yV (jf hq.d hr.d (by omega)))
 refine(zb (zj e1 (zj e3 rfl))).trans ?_;rw[wd (vy q r) (qw (mW hq.d hr.d) h),VU]
def zba{q:Rat}(h:q≠0):(q⁻¹).num=(if q.num<0 then -(q.den:Int) else (q.den:Int))/\(q⁻¹).den=q.num.natAbs:=by
 have h0:q.num≠0:=λe=>h (mZ.mp e)
 show(Rat.inv q).num=_/\(Rat.inv q).den=_
 unfold Rat.inv;by_cases z:q.num<0
 ·rw[dif_pos z,qj z];exact⟨rfl,rfl⟩
 ·rw[dif_neg z,dif_pos (by omega),qo z];exact⟨rfl,rfl⟩
def zlP{q:Rat}(h:q≠0):vX [fr q]=some (fr q⁻¹):=by
 have⟨e1,e2⟩:=zba h;have h0:q.num≠0:=λe=>h (mZ.mp e)
 have e3:fr q⁻¹=.tuple [.int (if q.num<0 then -(q.den:Int) else (q.den:Int)),.int (q.num.natAbs:Int)]:=by unfold fr;rw[e1,e2]
 rw[e3];have et:zG (op2 ltI (op2 ixD (gv 0) (cst (.int 0))) (cst (.int 0))) [.pu (fr q)]=some (decide (q.num<0)):=zE ((zd (ix0 q) rfl).trans rfl);refine zL rfl ?_;by_cases z:q.num<0
 ·refine za1 ((uF (et.trans (by rw[qG z]))).trans (zA ?_));refine(jU (zj ((zd rfl (ix1 q)).trans rfl) (zj ((zd rfl (ix0 q)).trans rfl) rfl)) (by show 2<=16777216;omega)).trans ?_;rw[qj z];congr 4
  ·omega
  ·congr 1;congr 1;omega
 ·refine(zv ((jZ (et.trans (by rw[qM z]))).trans rfl)).trans (zA ?_);refine(jU (zj (ix1 q) (zj (ix0 q) rfl)) (by show 2<=16777216;omega)).trans ?_;rw[qo z];congr 4;congr 1;omega
def zld{a:Nat}{q:Rat}(hq:Bq a q)(h:q≠0):Bq a q⁻¹:=by
 have⟨e1,e2⟩:=zba h;refine⟨?_,?_⟩
 ·rw[e1];refine gh (y:=(q.den:Int)) ?_ hq.d;split<;>simp
 ·rw[e2];exact gh (y:=q.num) (by simp) hq.n
def zk1{ρ:Ro}{i:Nat}{q:Rat}(h:gv i ρ=some (fr q)):xj (aC (op2 Yt (cst (.int 0)) (op2 ixD (gv i) (cst (.int 0)))) (aC (op2 ixD (gv i) (cst (.int 1))) a0)) ρ=some (fr (-q)):=by
 refine(jU (zj ((zd rfl ((zd h rfl).trans (ix0 q))).trans rfl) (zj ((zd h rfl).trans (ix1 q)) rfl)) (by show 2<=16777216;omega)).trans ?_;unfold fr;rw[Rat.neg_num,Rat.neg_den];congr 4;omega
def zk9{a:Nat}{q:Rat}(hq:Bq a q):Bq a (-q):=⟨by rw[Rat.neg_num];exact gh (y:=q.num) (by simp) hq.n,by rw[Rat.neg_den];exact hq.d⟩
theorem Y9{α:Type}{h:PyData->Option (Option PyData)}{e:α->PyData}{p:α->Bool}:∀{xs:List α},(∀x∈xs,h (e x)=some (if p x then some (e x) else none))->wz h (xs.map e)=some ((xs.filter p).map e)
 |[],_=>rfl
 |x::xs,q=>by
  show(h (e x)).bind _=_
  rw[q x (.head _),qp,Y9 λy hy=>q y (.tail _ hy),List.filter_cons];by_cases z:p x=true
  ·rw[qj z,qj z];rfl
  ·rw[qo z,qo z];rfl
theorem Yf(k:Nat):∀Q:List (Nat->Rat),((List.range Q.length).filter (λi=>decide ((Q.getD i λ_=>0) k≠0))=[]/\pick k Q=none)\/∃i r q,(List.range Q.length).filter (λi=>decide ((Q.getD i λ_=>0) k≠0))=i::r/\Q[i]?=some q/\pick k Q=some (q,Q.eraseIdx i)
 |[]=>.inl ⟨rfl,rfl⟩
 |q::Q=>by
  have e:(List.range (q::Q).length).filter (λi=>decide (((q::Q).getD i λ_=>0) k≠0))=(if decide (q k≠0)=true then [0] else [])++((List.range Q.length).filter (λi=>decide ((Q.getD i λ_=>0) k≠0))).map Nat.succ:=by
   rw[qX,List.range_succ_eq_map,List.filter_cons,List.filter_map];by_cases z:q k≠0
   ·rw[qj (show decide (((q::Q).getD 0 λ_=>0) k≠0)=true from qG z),qj (qG z)];rfl
   ·rw[qo (show ¬decide (((q::Q).getD 0 λ_=>0) k≠0)=true from λw=>z (nD w)),qo λw=>z (nD w)];rfl
  rw[e];by_cases z:q k≠0
  ·refine .inr ⟨0,_,q,by rw[qj (qG z)];rfl,rfl,?_⟩;unfold pick;rw[qj z];rfl
  ·rw[qo λw=>z (nD w),pX];rcases Yf k Q with⟨h1,h2⟩|⟨i,r,q',h1,h2,h3⟩
   ·refine .inl ⟨by rw[h1];rfl,?_⟩;unfold pick;rw[qo z,h2];rfl
   ·refine .inr ⟨i+1,r.map Nat.succ,q',by rw[h1];rfl,by simpa using h2,?_⟩;unfold pick;rw[qo z,h3];rfl
def zkL{i j a:Nat}{g:RPx}{ρ:Ro}{ds:LPd}{d:PdX}(h1:ρ[j]?=some (.ow ds))(h2:g ρ=some (.int (a:Int)))(h3:ds[a]?=some d)(h4:ds.length<=16777216):zeh i j g ρ=some (.nx ((ρ.set j (.ow (ds.eraseIdx a))).set i (.pu d))):=by
 have hl:=(qg.mp h3).1;unfold zeh;rw[h1,h2];show(if 0<=(a:Int)/\(a:Int)<ds.length/\ds.length<=16777216 then _ else none)=_
 rw[qj ⟨by omega,by omega,h4⟩,kf,h3];rfl
def zkM{i k:Nat}{fi f:RPx}{ρ:Ro}{ds:LPd}{d:PdX}(h1:gk i ρ=some ds)(h2:fi ρ=some (.int (k:Int)))(h3:f ρ=some d)(hk:k<1000)(hl:ds.length<16777216):inS i fi f ρ=some (.nx (ρ.set i (.ow (ds.take k++d::ds.drop k)))):=by
 unfold inS;rw[h1,qp,h2];show(f ρ).bind _=_
 rw[h3,qp,qj ⟨by omega,by omega,hl⟩,kf]
def zcD{g:RLx}{ρ:Ro}{a b:Nat}(h:g ρ=some [.int (a:Int),.int (b:Int)])(ha:a<1000000)(hb:b<1000000):uk g ρ=some (jT a (b - a)):=by
 unfold uk;rw[h];show(if -(2 ^ 62)<=(a:Int)/\(a:Int)<2 ^ 62/\-(2 ^ 62)<=(b:Int)/\(b:Int)<2 ^ 62 then some (jT (a:Int) ((b:Int) - (a:Int)).toNat) else none)=_
 rw[qj ⟨by omega,by omega,by omega,by omega⟩,show((b:Int) - (a:Int)).toNat=b - a by omega]
abbrev zB(n:Nat)(Q:LQr):List PyData:=Q.map (yp n)
def zfA{n a i:Nat}{Dn:LPd}{Q:LQr}{q:Q1x}(hD:Dn.length=a)(h:Q[i]?=some q):(Dn++zB n Q)[a+i]?=some (yp n q):=by
 rw[qz (by omega),qq,show a+i - Dn.length=i by omega,h];rfl
def VW{ds:LPd}{a:Nat}{d:PdX}(h:ds[a]?=some d):ixD (.list ds) (.int (a:Int))=some d:=Vf h
theorem YV{α β:Type}(f:α->β):∀(l:List α)(i:Nat),(l.map f).eraseIdx i=(l.eraseIdx i).map f
 |[],_=>rfl
 |_::_,0=>rfl
 |a::l,i+1=>qR (f a::·) (YV f l i)
def erase_left{n a i:Nat}{Dn:LPd}{Q:LQr}(hD:Dn.length=a):(Dn++zB n Q).eraseIdx (a+i)=Dn++zB n (Q.eraseIdx i):=by
 rw[pI (by omega),show a+i - Dn.length=i by omega,YV]
abbrev lrB:RFx:=ifS (zG (op2 neD (op2 ixD (op2 ixD (op2 ixD (gb 1) (gv 6)) (gv 3)) (cst (.int 0))) (cst (.int 0)))) (sq (zX 7 (zg yz (aC (op2 ixD (op2 ixD (gb 1) (gv 6)) (gv 3)) (aC (zg vX (aC (op2 ixD (gv 5) (gv 3)) a0)) a0))))
 (sq (zX 8 (xj (aC (op2 Yt (cst (.int 0)) (op2 ixD (gv 7) (cst (.int 0)))) (aC (op2 ixD (gv 7) (cst (.int 1))) a0))))
 (siS 1 (gv 6) (yg (zR 1 [1,5,6,8] (y4 (aC (zg yj (aC (gv 5) a0)) a0)) (bN 0) (zg xf (aC (op2 ixD (op2 ixD (gb 1) (gv 3)) (gv 0)) (aC (zg yz (aC (gv 4) (aC (op2 ixD (gv 2) (gv 0)) a0))) a0)))))))) s0
def zjY{b q:Q1x}{k:Nat}(h:q k=0):el b k q=q:=by
 funext y
 show q y - q k / b k*b y=q y
 rw[h,gZ,kK,kK];grind
def VG{ρ:Ro}{f:RPx}{q:Rat}(h:f ρ=some (fr q)):zG (op2 neD (op2 ixD f (cst (.int 0))) (cst (.int 0))) ρ=some (decide (q≠0)):=by
 refine zE ((zd ((zd h rfl).trans (ix0 q)) rfl).trans ((wI _ _).trans ?_));by_cases z:q=0
 ·subst z;rfl
 ·rw[qM (λe=>z (mZ.mp e)),qG z];rfl
def zel{n k a s:Nat}{Dn:LPd}{b:Q1x}{Q:LQr}{x0 x4:Sl}(hn:n<=42)(hk:k<n)(hb:b k≠0)(hD:Dn.length=a)(hl:a+Q.length<1000)(hs:3*s<=8999)(hB:∀x,x<n->Bq s (b x))(hQ:∀q∈Q,∀x,x<n->Bq s (q x))(hT:∀q∈Q,∀x,x<n->Bq (2*s) (q k*(b k)⁻¹*b x))(y6 y7 y8:Sl):∃o6 o7 o8,jS (uk (aC (op2 xD (gv 2) (cst (.int 1))) (aC (zg yj (aC (gb 1) a0)) a0))) (bN 6) lrB [x0,.ow (Dn++yp n b::zB n Q),.pu (zF a),.pu (zF k),x4,.pu (yp n b),y6,y7,y8]
   =some (.nx [x0,.ow (Dn++yp n b::zB n (Q.map (el b k))),.pu (zF a),.pu (zF k),x4,.pu (yp n b),o6,o7,o8]):=by
 have hlen:(Dn++yp n b::zB n Q).length=a+1+Q.length:=by rw[qy,qX,qe,hD];omega
 have hit:uk (aC (op2 xD (gv 2) (cst (.int 1))) (aC (zg yj (aC (gb 1) a0)) a0)) [x0,.ow (Dn++yp n b::zB n Q),.pu (zF a),.pu (zF k),x4,.pu (yp n b),y6,y7,y8]=some (jT ((a+1:Nat):Int) Q.length):=by
  refine(zcD (a:=a+1) (b:=a+1+Q.length) (zj ((zd rfl rfl).trans rfl) (zj ((zb (zj rfl rfl)).trans ?_) rfl)) (by omega) (by omega)).trans ?_
  ·show some (PyData.int ((Dn++yp n b::zB n Q).length:Int))=_
   rw[hlen]
  ·rw[show a+1+Q.length - (a+1)=Q.length by omega]
 obtain⟨ρ',e,o6,o7,o8,rfl⟩:=uS (ds:=jT ((a+1:Nat):Int) Q.length) (it:=uk (aC (op2 xD (gv 2) (cst (.int 1))) (aC (zg yj (aC (gb 1) a0)) a0))) (bd:=bN 6) (b:=lrB)
  (ρ0:=[x0,.ow (Dn++yp n b::zB n Q),.pu (zF a),.pu (zF k),x4,.pu (yp n b),y6,y7,y8])
  (λj ρ=>∃o6 o7 o8,ρ=[x0,.ow (Dn++yp n b::(zB n ((Q.take j).map (el b k))++zB n (Q.drop j))),.pu (zF a),.pu (zF k),x4,.pu (yp n b),o6,o7,o8]) hit ⟨y6,y7,y8,by simp⟩
  (λj d ρ hd ⟨o6,o7,o8,e⟩=>by
   subst e;obtain⟨hj,rfl⟩:=VI hd;obtain⟨q,hq⟩:∃q,Q[j]?=some q:=⟨_,qk hj⟩;have hqm:=qN hq;have hdrop:Q.drop j=q::Q.drop (j+1):=by
    rw[gN hj];rw[qk hj] at hq;cases hq;rfl
   have htake:(Q.take (j+1)).map (el b k)=(Q.take j).map (el b k)++[el b k q]:=by
    rw[gR,hq,qW];rfl
   generalize hL:Dn++yp n b::(zB n ((Q.take j).map (el b k))++zB n (Q.drop j))=left;have hix:left[a+1+j]?=some (yp n q):=by
    rw[<-hL,qz (by omega),show a+1+j - Dn.length=j+1 by omega,kZ,qz (by rw[qe,qe,kD];omega),hdrop,qe,qe,kD,show j - min j Q.length=0 by omega];rfl
   have hset:left.set (a+1+j) (yp n (el b k q))=Dn++yp n b::(zB n ((Q.take (j+1)).map (el b k))++zB n (Q.drop (j+1))):=by
    rw[<-hL,List.set_append_right _ _ (by omega),show a+1+j - Dn.length=j+1 by omega,List.set_cons_succ,List.set_append_right _ _ (by rw[qe,qe,kD];omega),qe,qe,kD,show j - min j Q.length=0 by omega,hdrop,htake];show Dn++yp n b::(zB n ((Q.take j).map (el b k))++yp n (el b k q)::zB n (Q.drop (j+1)))=Dn++yp n b::((((Q.take j).map (el b k)++[el b k q]).map (yp n))++zB n (Q.drop (j+1)))
    rw[qW,gU];rfl
   have er:((a+1:Nat):Int)+(j:Int)=((a+1+j:Nat):Int):=by omega
   rw[er];have ex:∀z7 z8,op2 ixD (gb 1) (gv 6) [x0,.ow left,.pu (zF a),.pu (zF k),x4,.pu (yp n b),.pu (zF (a+1+j)),z7,z8]=some (yp n q):=λ_ _=>(zd rfl rfl).trans (VW hix)
   have exk:∀z7 z8,op2 ixD (op2 ixD (gb 1) (gv 6)) (gv 3) [x0,.ow left,.pu (zF a),.pu (zF k),x4,.pu (yp n b),.pu (zF (a+1+j)),z7,z8]=some (fr (q k)):=λz7 z8=>(zd (ex z7 z8) rfl).trans (uf (t:=false) hk)
   suffices key:∃ρ2,lrB [x0,.ow left,.pu (zF a),.pu (zF k),x4,.pu (yp n b),.pu (zF (a+1+j)),o7,o8]=some (.nx ρ2)/\∃o6 o7 o8,ρ2=[x0,.ow (Dn++yp n b::(zB n ((Q.take (j+1)).map (el b k))++zB n (Q.drop (j+1)))),.pu (zF a),.pu (zF k),x4,.pu (yp n b),o6,o7,o8] by
    have⟨ρ2,k1,k2⟩:=key;exact⟨_,ρ2,rfl,k1,k2⟩
   by_cases z:q k=0
   ·refine⟨_,(jZ ((VG (exk o7 o8)).trans (by rw[qM λw=>w z]))).trans rfl,.pu (zF (a+1+j)),o7,o8,?_⟩;have hself:left.set (a+1+j) (yp n q)=left:=by
     obtain⟨h,e⟩:=qg.mp hix;rw[<-e,List.set_getElem_self]
    rw[<-hset,zjY z,hself]
   ·have b1:=hQ q hqm;have bp:=zna (b1 k hk) (zld (hB k hk) hb)
    have e7:zg yz (aC (op2 ixD (op2 ixD (gb 1) (gv 6)) (gv 3)) (aC (zg vX (aC (op2 ixD (gv 5) (gv 3)) a0)) a0)) [x0,.ow left,.pu (zF a),.pu (zF k),x4,.pu (yp n b),.pu (zF (a+1+j)),o7,o8]=some (fr (q k*(b k)⁻¹)):=(zb (zj (exk o7 o8) (zj ((zb (zj ((zd rfl rfl).trans (uf (t:=false) hk)) rfl)).trans (zlP hb)) rfl))).trans (JP (b1 k hk) (zld (hB k hk) hb) (by omega));refine⟨_,(uF ((VG (exk o7 o8)).trans (by rw[qG z]))).trans ((zv (zD e7)).trans ((zv (zD (zk1 (q:=q k*(b k)⁻¹) rfl))).trans (zfD (a:=a+1+j) (ds:=left) (d:=yp n (el b k q)) rfl (zS ?_) rfl (qg.mp hix).1))),.pu (zF (a+1+j)),.pu (fr (q k*(b k)⁻¹)),.pu (fr (-(q k*(b k)⁻¹))),?_⟩
    ·refine jQ (n:=n) (zj ((zb rfl).trans (JQ false n b)) rfl) (by omega) λc hc=>?_
     refine(zb (zj ((zd ((zd (x:=.list left) (y:=zF (a+1+j)) rfl rfl).trans (VW hix)) rfl).trans (uf (t:=false) hc)) (zj ((zb (zj (x:=fr (-(q k*(b k)⁻¹))) rfl (zj ((zd (x:=yp n b) (y:=zF c) rfl rfl).trans (uf (t:=false) hc)) rfl))).trans (JP (zk9 bp) (hB c hc) (by omega))) rfl))).trans ((Z6 (b1 c hc) (by rw[show -(q k*(b k)⁻¹)*b c=-(q k*(b k)⁻¹*b c) by grind];exact zk9 (hT q hqm c hc)) (by omega)).trans ?_);refine qR (λt=>some (fr t)) ?_;show q c+-(q k*(b k)⁻¹)*b c=q c - q k / b k*b c
     rw[gZ];grind
    ·rw[<-hset];rfl)
 refine⟨o6,o7,o8,e.trans ?_⟩;rw[show(jT ((a+1:Nat):Int) Q.length).length=Q.length by simp[jT],gx,mR];simp
def zf6{t:Rat}{z w:Int}(hz:z≠0)(e:t*(z:Rat)=(w:Rat)):InB z.natAbs w.natAbs t:=by
 by_cases h:0<=z
 ·refine⟨by omega,w,?_,qf _⟩;rw[<-e,<-Rat.intCast_natCast,Int.natAbs_of_nonneg h]
 ·refine⟨by omega,-w,?_,by rw[ny];exact qf _⟩
  have:((z.natAbs:Nat):Rat)=-(z:Rat):=by
   rw[<-Rat.intCast_natCast,<-Rat.intCast_neg];congr 1;omega
  rw[m9,<-e,this];grind
def zmV{n B X s:Nat}{Q:LQr}{R:LZr}{T F:LNt}{C:LZr}{d:Int}(h:Eb n B X Q R T F C d)(h1:X*(n*B) ^ R.length<2 ^ s)(h2:n*((n*(n*B) ^ R.length)*B)<2 ^ s){q:Q1x}(hq:q∈Q)(x:Nat)(hx:x<n):Bq s (q x):=by
 have⟨M,M0,MX,hM⟩:=h.num hq;have⟨S,e,hS⟩:=hM x hx;have d0:=h.sp.d0;have hp:0<M*d.natAbs:=kH M0 (by omega)
 have ib:InB (M*d.natAbs) S.natAbs (q x):=by
  have:=zf6 (z:=(M:Int)*d) (w:=S) (t:=q x) (g9 (by omega) d0) (by rw[ki,kh];exact e);rwa [kg,kT] at this
 refine⟨jE (qI (qw ib.num hS) h2),jE ?_⟩;have h3:(q x).den<=M*d.natAbs:=gc hp ib.den;have h4:M*d.natAbs<=X*(n*B) ^ R.length:=ky MX h.dabs
 show((q x).den:Int).natAbs<2 ^ s
 rw[kT];omega
def znh{n B X s k:Nat}{Q:LQr}{R:LZr}{T F:LNt}{C:LZr}{d:Int}(h:Eb n B X Q R T F C d)(h1:X*(n*B) ^ R.length<2 ^ s)(h2:n*((n*(n*B) ^ R.length)*B)<2 ^ s){q b:Q1x}(hq:q∈Q)(hb:b∈Q)(hk:k<n)(hbk:b k≠0)(x:Nat)(hx:x<n):Bq (2*s) (q k*(b k)⁻¹*b x):=by
 have⟨M1,p1,q1,hM1⟩:=h.num hq;have⟨M2,p2,q2,hM2⟩:=h.num hb;have⟨S1,e1,b1⟩:=hM1 k hk;have⟨S2,e2,b2⟩:=hM2 k hk;have⟨S3,e3,b3⟩:=hM2 x hx;have d0:=h.sp.d0;have hd:(d:Rat)≠0:=λz=>d0 (by exact_mod_cast z)
 have hS2:S2≠0:=λz=>by
  rw[z] at e2;rcases kP.mp (show b k*((M2:Rat)*(d:Rat))=0 from e2) with w|w
  ·exact hbk w
  ·rcases kP.mp w with w|w
   ·exact ja p2 w
   ·exact hd w
 have hi:=nv _ hbk;have ib:=zf6 (z:=(M1:Int)*d*S2) (w:=S1*S3) (t:=q k*(b k)⁻¹*b x) (g9 (g9 (by omega) d0) hS2) (by
  rw[ki,ki,ki,kh,<-e1,<-e2,<-e3];generalize (M1:Rat)=m1;generalize (M2:Rat)=m2;generalize (d:Rat)=dd;grind)
 have hp:0<((M1:Int)*d*S2).natAbs:=ib.pos;have t2:2*s=s+s:=by omega
 refine⟨jE ?_,jE ?_⟩
 ·refine qI ib.num ?_;rw[kg,t2,gQ];exact Nat.mul_lt_mul'' (qI b1 h2) (qI b3 h2)
 ·rw[kT];refine qI (gc hp ib.den) ?_;rw[kg,kg,kT,t2,gQ];exact Nat.mul_lt_mul'' (qI (ky q1 h.dabs) h1) (qI b2 h2)
abbrev lrA:RFx:=sq (jc 4 (Jf 1 [1,3] (uk (aC (gv 2) (aC (zg yj (aC (gb 1) a0)) a0))) (bN 0) (zG (op2 neD (op2 ixD (op2 ixD (op2 ixD (gb 1) (gv 0)) (gv 2)) (cst (.int 0))) (cst (.int 0)))) (gv 0)))
 (ifS (zG (op2 gtI (zg yj (aC (gb 4) a0)) (cst (.int 0)))) (sq (zeh 5 1 (op2 ixD (gb 4) (cst (.int 0))))
 (sq (inS 1 (gv 2) (gv 5))
 (sq (jS (uk (aC (op2 xD (gv 2) (cst (.int 1))) (aC (zg yj (aC (gb 1) a0)) a0))) (bN 6) lrB)
 (zX 2 (op2 xD (gv 2) (cst (.int 1))))))) s0)
def LS(n B X:Nat)(L:LQr)(x0:Sl)(k:Nat)(ρ:Ro):Prop:=∃(Dn:LPd)(Q:LQr)(R:LZr)(T F:LNt)(C:LZr)(d:Int)(o3 o4 o5 o6 o7 o8:Sl),ρ=[x0,.ow (Dn++zB n Q),.pu (zF Dn.length),o3,o4,o5,o6,o7,o8]/\Dn.length+Q.length=L.length/\Eb n B X Q R T F C d/\R.length=Dn.length/\rk (n - k) k Q+Dn.length=rk n 0 L
def ze3{n B X s k:Nat}{L:LQr}{x0:Sl}(hn:n<=42)(hk:k<n)(hl:L.length<500)(hs:3*s<=8999)(hz:∀j,j<=L.length->j<=n->X*(n*B) ^ j<2 ^ s/\n*((n*(n*B) ^ j)*B)<2 ^ s){ρ:Ro}(h:LS n B X L x0 k ρ):∃ρ2,lrA (ρ.set 3 (.pu (zF k)))=some (.nx ρ2)/\LS n B X L x0 (k+1) ρ2:=by
 obtain⟨Dn,Q,R,T,F,C,d,o3,o4,o5,o6,o7,o8,rfl,hlen,eb,hR,hrk⟩:=h;show ∃ρ2,lrA [x0,.ow (Dn++zB n Q),.pu (zF Dn.length),.pu (zF k),o4,o5,o6,o7,o8]=some (.nx ρ2)/\_
 have hzR:=hz R.length (by omega) eb.znF;have bq:∀q∈Q,∀x,x<n->Bq s (q x):=λq hq x hx=>zmV eb hzR.1 hzR.2 hq x hx
 have hleft:(Dn++zB n Q).length=Dn.length+Q.length:=by rw[qy,qe]
 have hat:Jf 1 [1,3] (uk (aC (gv 2) (aC (zg yj (aC (gb 1) a0)) a0))) (bN 0) (zG (op2 neD (op2 ixD (op2 ixD (op2 ixD (gb 1) (gv 0)) (gv 2)) (cst (.int 0))) (cst (.int 0)))) (gv 0) [x0,.ow (Dn++zB n Q),.pu (zF Dn.length),.pu (zF k),o4,o5,o6,o7,o8]
   =some (((List.range Q.length).filter (λi=>decide ((Q.getD i λ_=>0) k≠0))).map λi:Nat=>PyData.int ((Dn.length:Int)+(i:Int))):=by
  have hr:uk (aC (gv 2) (aC (zg yj (aC (gb 1) a0)) a0)) [x0,.ow (Dn++zB n Q),.pu (zF Dn.length),.pu (zF k),o4,o5,o6,o7,o8]=some (jT (Dn.length:Int) Q.length):=by
   refine(zcD (a:=Dn.length) (b:=Dn.length+Q.length) (zj rfl (zj ((zb (zj rfl rfl)).trans ?_) rfl)) (by omega) (by omega)).trans (by rw[bx]);show some (PyData.int ((Dn++zB n Q).length:Int))=_
   rw[hleft]
  unfold Jf;rw[hr,qp,qj (by simp[jT];omega)];refine Y9 (e:=λi:Nat=>PyData.int ((Dn.length:Int)+(i:Int))) λi hi=>?_
  have hi:=qE.mp hi;obtain⟨q,hq⟩:∃q,Q[i]?=some q:=⟨_,qk hi⟩;have hg:Q.getD i (λ_=>0)=q:=by rw[qB,hq];rfl
  rw[show(Dn.length:Int)+(i:Int)=((Dn.length+i:Nat):Int) by omega];show((zG (op2 neD (op2 ixD (op2 ixD (op2 ixD (gb 1) (gv 0)) (gv 2)) (cst (.int 0))) (cst (.int 0)))) [.pu (zF (Dn.length+i)),.ow (Dn++zB n Q),.pu (zF k)]).bind _=_
  rw[VG (q:=q k) ((zd ((zd rfl rfl).trans (VW (zfA rfl hq))) rfl).trans (uf (t:=false) hk)),qp,hg];by_cases z:decide (q k≠0)=true
  ·rw[qj z,qj z];rfl
  ·rw[qo z,qo z]
 have hkk:n - k=(n - (k+1))+1:=by omega
 rcases Yf k Q with⟨h1,h2⟩|⟨i,rest,q,h1,h2,h3⟩
 ·refine⟨_,(zv (yI hat)).trans ((jZ ?_).trans rfl),Dn,Q,R,T,F,C,d,.pu (zF k),.ow [],o5,o6,o7,o8,?_,hlen,eb,hR,?_⟩
  ·rw[h1];exact zE rfl
  ·rw[h1];rfl
  ·rw[<-hrk,hkk];show _=(match pick k Q with |none=>rk (n - (k+1)) (k+1) Q|some p=>1+rk (n - (k+1)) (k+1) (p.2.map (el p.1 k)))+_
   rw[h2]
 ·have hi:i<Q.length:=(qg.mp h2).1;have hqm:=qN h2
  have⟨hb,_⟩:=ui h3;have⟨R',T',F',C',d',eb',hR'⟩:=eb.step hk h3;have hel:(Q.eraseIdx i).length=Q.length - 1:=by rw[gS,qj hi]
  have qs:∀q'∈Q.eraseIdx i,∀x,x<n->Bq s (q' x):=λq' hq'=>bq q' (gV hq')
  generalize hA:((List.range Q.length).filter (λi=>decide ((Q.getD i λ_=>0) k≠0))).map (λi:Nat=>PyData.int ((Dn.length:Int)+(i:Int)))=atD at hat;have hA0:atD=zF (Dn.length+i)::rest.map (λi:Nat=>PyData.int ((Dn.length:Int)+(i:Int))):=by
   rw[<-hA,h1];show PyData.int ((Dn.length:Int)+(i:Int))::_=_
   rw[show(Dn.length:Int)+(i:Int)=((Dn.length+i:Nat):Int) by omega]
  obtain⟨z6,z7,z8,el⟩:=zel (n:=n) (k:=k) (a:=Dn.length) (s:=s) (Dn:=Dn) (b:=q) (Q:=Q.eraseIdx i) (x0:=x0) (x4:=.ow atD) hn hk hb rfl (by omega) hs (bq q hqm) qs (λq' hq' x hx=>znh eb hzR.1 hzR.2 (gV hq') hqm hk hb x hx) o6 o7 o8;have e1:zG (op2 gtI (zg yj (aC (gb 4) a0)) (cst (.int 0))) [x0,.ow (Dn++zB n Q),.pu (zF Dn.length),.pu (zF k),.ow atD,o5,o6,o7,o8]=some true:=by
   refine zE ((zd (x:=.int (atD.length:Int)) rfl rfl).trans ?_);show some (PyData.bool (decide ((0:Int)<(atD.length:Int))))=_
   rw[qG (by rw[hA0,qX];omega)]
  have e2:zeh 5 1 (op2 ixD (gb 4) (cst (.int 0))) [x0,.ow (Dn++zB n Q),.pu (zF Dn.length),.pu (zF k),.ow atD,o5,o6,o7,o8]=some (.nx [x0,.ow (Dn++zB n (Q.eraseIdx i)),.pu (zF Dn.length),.pu (zF k),.ow atD,.pu (yp n q),o6,o7,o8]):=by
   refine(zkL (a:=Dn.length+i) (ds:=Dn++zB n Q) (d:=yp n q) rfl ?_ (zfA rfl h2) (by omega)).trans ?_
   ·refine(zd (x:=.list atD) rfl rfl).trans ?_;rw[hA0];exact VW (a:=0) rfl
   ·rw[erase_left rfl];rfl
  have e3:inS 1 (gv 2) (gv 5) [x0,.ow (Dn++zB n (Q.eraseIdx i)),.pu (zF Dn.length),.pu (zF k),.ow atD,.pu (yp n q),o6,o7,o8]=some (.nx [x0,.ow (Dn++yp n q::zB n (Q.eraseIdx i)),.pu (zF Dn.length),.pu (zF k),.ow atD,.pu (yp n q),o6,o7,o8]):=by
   refine(zkM (k:=Dn.length) (ds:=Dn++zB n (Q.eraseIdx i)) (d:=yp n q) rfl rfl rfl (by omega) (by rw[qy,qe];omega)).trans ?_;rw[List.take_left' rfl,List.drop_left' rfl];rfl
  refine⟨[x0,.ow (Dn++yp n q::zB n ((Q.eraseIdx i).map (WD.DT.el q k))),.pu (zF (Dn.length+1)),.pu (zF k),.ow atD,.pu (yp n q),z6,z7,z8],(zv (yI hat)).trans ((uF e1).trans ((zv e2).trans ((zv e3).trans ((zv el).trans (zD (d:=zF (Dn.length+1)) rfl))))),?_⟩
  ·refine⟨Dn++[yp n q],(Q.eraseIdx i).map (WD.DT.el q k),R',T',F',C',d',.pu (zF k),.ow atD,.pu (yp n q),z6,z7,z8,?_,?_,eb',?_,?_⟩
   ·rw[gU,qy];rfl
   ·rw[qy,qe,kI];omega
   ·rw[hR',hR,qy];rfl
   ·rw[<-hrk,hkk,qy,kI];show _=(match pick k Q with |none=>rk (n - (k+1)) (k+1) Q|some p=>1+rk (n - (k+1)) (k+1) (p.2.map (WD.DT.el p.1 k)))+_
    rw[h3];show _=1+rk (n - (k+1)) (k+1) ((Q.eraseIdx i).map (WD.DT.el q k))+_
    omega
theorem zio:∀m k,rk m k []=0
 |0,_=>rfl
 |m+1,k=>zio m (k+1)
structure Rb(n B X s:Nat)(L:LQr):Prop where
 ex:∀q∈L,∃(l:Z1x)(M:Nat),0<M/\M<=X/\∀x,x<n->(l x).natAbs<=B/\(l x:Rat)=(M:Rat)*q x
 hl:L.length<500
 hs:3*s<=8999
 hz:∀j,j<=L.length->j<=n->X*(n*B) ^ j<2 ^ s/\n*((n*(n*B) ^ j)*B)<2 ^ s
def W6{n B X s:Nat}{L:LQr}(hn:n<=42)(h:Rb n B X s L):uV [.list (zB n L)]=some (zF (rk n 0 L)):=by
 have hl:=h.hl;have e1:zR 1 [] (yw (gv 0)) (bN 0) (yg (y3 uB (aC (gv 0) a0))) [.pu (.list (zB n L)),.no,.no,.no,.no,.no,.no,.no,.no]=some (zB n L):=zU (xs:=L) (e:=yp n) (jt rfl) (by omega) λq _=>yy.trans rfl
 have start:LS n B X L (.pu (.list (zB n L))) 0 [.pu (.list (zB n L)),.ow (zB n L),.pu (zF 0),.no,.no,.no,.no,.no,.no]:=⟨[],L,[],[],List.range n,(List.range n).map xt,1,.no,.no,.no,.no,.no,.no,rfl,by simp,zmB h.ex,rfl,rfl⟩;have hit:∃w,(w=n\/L=[])/\y4 (aC (ifE (zG (op2 gtI (zg yj (aC (gb 1) a0)) (cst (.int 0)))) (zg yj (aC (op2 ixD (gb 1) (cst (.int 0))) a0)) (cst (.int 0))) a0) [.pu (.list (zB n L)),.ow (zB n L),.pu (zF 0),.no,.no,.no,.no,.no,.no]=some (jT 0 w)/\w<=n:=by
  cases L with
  |nil=>exact⟨0,.inr rfl,VH (n:=0) (zj ((zlb (zE rfl)).trans rfl) rfl) (by omega),kE _⟩
  |cons q L=>
   refine⟨n,.inl rfl,VH (n:=n) (zj ((zkY (zE ((zd (x:=.int ((zB n (q::L)).length:Int)) rfl rfl).trans ?_))).trans ((zb (zj ((zd rfl rfl).trans (VW (a:=0) (d:=yp n q) rfl)) rfl)).trans (JQ false n q))) rfl) (by omega),qf _⟩;show some (PyData.bool (decide ((0:Int)<((zB n (q::L)).length:Int))))=_
   rw[qG (by rw[qe,qX];omega)]
 obtain⟨w,hw,hit,hwn⟩:=hit;obtain⟨ρ',e2,P⟩:=uS (ds:=jT 0 w) (it:=y4 (aC (ifE (zG (op2 gtI (zg yj (aC (gb 1) a0)) (cst (.int 0)))) (zg yj (aC (op2 ixD (gb 1) (cst (.int 0))) a0)) (cst (.int 0))) a0)) (bd:=bN 3) (b:=lrA)
  (ρ0:=[.pu (.list (zB n L)),.ow (zB n L),.pu (zF 0),.no,.no,.no,.no,.no,.no]) (λk ρ=>LS n B X L (.pu (.list (zB n L))) k ρ) hit start λk d ρ hd hP=>by
   obtain⟨hk,rfl⟩:=VI hd;obtain⟨ρ2,a1,a2⟩:=ze3 hn (show k<n by omega) hl h.hs h.hz hP;refine⟨ρ.set 3 (.pu (zF k)),ρ2,?_,a1,a2⟩;rw[show(0:Int)+(k:Int)=(k:Int) by omega];rfl
 rw[show(jT 0 w).length=w by simp[jT]] at P;obtain⟨Dn,Q,R,T,F,C,d,o3,o4,o5,o6,o7,o8,rfl,hlen,_,_,hrk⟩:=P;have hfin:Dn.length=rk n 0 L:=by
  rcases hw with rfl|rfl
  ·rw[gm] at hrk;rw[<-hrk];show _=0+_
   omega
  ·rw[zio]
   have:Dn.length+Q.length=0:=hlen;omega
 refine zL rfl ?_;refine(zv (yI e1)).trans ((zv (ρ':=[.pu (.list (zB n L)),.ow (zB n L),.pu (zF 0),.no,.no,.no,.no,.no,.no]) rfl).trans ((zv e2).trans (zA ?_)));rw[<-hfin];rfl
def zjj{n:Nat}{x:Q1x}:InQ n [] x↔∀y,y<n->x y=0:=by
 constructor
 ·intro h y hy
  have:=h (λz=>if z=y then 1 else 0) λl hl=>by cases hl
  have e:dq n (λz=>if z=y then 1 else 0) x=x y:=by
   show sumTo n (λz=>(if z=y then (1:Rat) else 0)*x z)=x y
   rw[yR _ n hy λz _ hne=>by rw[qo hne,kK],qj rfl,nZ]
  rw[e] at this;exact this
 ·intro h w _;show sumTo n (λz=>w z*x z)=0
  rw[zf n (g:=λ_=>0) λz hz=>by rw[h z hz,gA],yx]
def JO{n B X s:Nat}{L:LQr}{x:Q1x}(hn:n<=42)(h:Rb n B X s (L++[x]))(h':Rb n B X s L):∃b:Bool,yU [.list (zB n L),yp n x]=some (.bool b)/\(b=true↔InQ n L x):=by
 have hl:=h'.hl;have et:zG (op2 eqD (zg yj (aC (gv 0) a0)) (cst (.int 0))) [.pu (.list (zB n L)),.pu (yp n x)]=some (decide (L=[])):=by
  refine zE ((zd (x:=.int ((zB n L).length:Int)) rfl rfl).trans ((J5 _ _).trans ?_));rw[qe];refine qR (λb=>some (PyData.bool b)) (nJ.mpr ?_);constructor
  ·intro e;exact gB.mp (by omega)
  ·intro e;rw[e];rfl
 by_cases hL:L=[]
 ·subst hL;have hc:Jf 1 [] (yw (gv 1)) (bN 0) (zG (op2 neD (op2 ixD (gv 0) (cst (.int 0))) (cst (.int 0)))) (gv 0) [.pu (.list (zB n [])),.pu (yp n x)]=some (((List.range n).filter λi=>decide (x i≠0)).map λi=>fr (x i)):=by
   unfold Jf;rw[show yw (gv 1) [.pu (.list (zB n [])),.pu (yp n x)]=some ((List.range n).map λi=>fr (x i)) from jt rfl,qp,qj (by rw[qe,qu];omega)];refine Y9 (e:=λi:Nat=>fr (x i)) λi _=>?_
   show((zG (op2 neD (op2 ixD (gv 0) (cst (.int 0))) (cst (.int 0)))) [.pu (fr (x i))]).bind (λok=>if ok=true then Option.map some (gv 0 [.pu (fr (x i))]) else some none)=_
   rw[VG (q:=x i) rfl,qp];by_cases z:decide (x i≠0)=true
   ·rw[qj z,qj z];rfl
   ·rw[qo z,qo z]
  refine⟨_,zL rfl (za1 ((uF (et.trans (by rw[qG rfl]))).trans (zA ((zd ((zb (zj (zS hc) rfl)).trans rfl) rfl).trans (J5 _ _))))),?_⟩;rw[qe,zjj,pF];constructor
  ·intro e y hy;have e2:(List.range n).filter (λi=>decide (x i≠0))=[]:=gB.mp (by omega)
   have:=List.filter_eq_nil_iff.mp e2 y (qE.mpr hy);exact Classical.not_not.mp λz=>this (qG z)
  ·intro e;rw[List.filter_eq_nil_iff.mpr λy hy=>by rw[e y (qE.mp hy)];simp];rfl
 ·have ec:zlM zhC (gv 0) (yg (vq (aC (gv 1) a0))) [.pu (.list (zB n L)),.pu (yp n x)]=some (zB n (L++[x])):=by
   show zhC (.list (zB n L)) (.list [yp n x])=_
   show(if (zB n L).length+[yp n x].length<=16777216 then some (zB n L++[yp n x]) else none)=_
   rw[qj (by rw[qe,kI];omega),show zB n (L++[x])=zB n L++[yp n x] from qW]
  refine⟨_,zL rfl ((zv ((jZ (et.trans (by rw[qM hL]))).trans rfl)).trans (zA ((zd ((zb (zj (zS ec) rfl)).trans (W6 hn h)) ((zb rfl).trans (W6 hn h'))).trans (J5 _ _)))),?_⟩;rw[<-zgl (n:=n) L x,pF];omega
theorem zdj{bd:PyData->Ro->Option Ro}{b:RFx}{d:PdX}(P:Ro->Prop):∀{ds:LPd} {ρ0:Ro} (p:Nat->Prop),P ρ0->
  (∀i dd ρ,ds[i]?=some dd->P ρ->∃ρ1,bd dd ρ=some ρ1/\((p i/\∃ρ2,b ρ1=some (.nx ρ2)/\P ρ2)\/(¬p i/\b ρ1=some (.rt d))))->
  ((∀i,i<ds.length->p i)/\∃ρ',Zd bd b ds ρ0=some (.nx ρ')/\P ρ')\/((¬∀i,i<ds.length->p i)/\Zd bd b ds ρ0=some (.rt d))
 |[],ρ0,p,h0,_=>.inl ⟨λi hi=>absurd hi (gq i),ρ0,rfl,h0⟩
 |dd::r,ρ0,p,h0,h=>by
  have⟨ρ1,e1,q⟩:=h 0 dd ρ0 rfl h0;rcases q with⟨hp,ρ2,e2,hP⟩|⟨hp,e2⟩
  ·have st:Zd bd b (dd::r) ρ0=Zd bd b r ρ2:=by
    show(bd dd ρ0).bind _=_
    rw[e1,qp,e2]
   rcases zdj P (ds:=r) (ρ0:=ρ2) (λi=>p (i+1)) hP λi d' ρ e q=>h (i+1) d' ρ (by simpa using e) q with⟨a1,ρ',a2,a3⟩|⟨a1,a2⟩
   ·refine .inl ⟨λi hi=>?_,ρ',st.trans a2,a3⟩;cases i with
    |zero=>exact hp
    |succ i=>exact a1 i (by simpa using hi)
   ·exact .inr ⟨λz=>a1 λi hi=>z (i+1) (by simpa using hi),st.trans a2⟩
  ·refine .inr ⟨λz=>hp (z 0 (by simp)),?_⟩;show(bd dd ρ0).bind _=_
   rw[e1,qp,e2]
def zdc{it:RLx}{bd:PyData->Ro->Option Ro}{b:RFx}{ds:LPd}{ρ0:Ro}{d:PdX}(P:Ro->Prop)(p:Nat->Prop)(hi:it ρ0=some ds)(h0:P ρ0)(h:∀i dd ρ,ds[i]?=some dd->P ρ->∃ρ1,bd dd ρ=some ρ1/\((p i/\∃ρ2,b ρ1=some (.nx ρ2)/\P ρ2)\/(¬p i/\b ρ1=some (.rt d)))):((∀i,i<ds.length->p i)/\∃ρ',jS it bd b ρ0=some (.nx ρ')/\P ρ')\/((¬∀i,i<ds.length->p i)/\jS it bd b ρ0=some (.rt d)):=by
 have e:jS it bd b ρ0=Zd bd b ds ρ0:=by
  unfold jS;rw[hi];rfl
 rw[e];exact zdj P p h0 h
section
variable{n m s:Nat}{fi gi la lb:Q1x}{st su:Q3x}
def zdG(hn:n<=42)(hm:m<=42)(hs:s<=42):uU [zq n s fi st la,zq m s gi su lb]=some (zq (n+m) s (jn n fi gi) (jb n st su) (jn n la λi=>-(lb i))):=by
 refine zL rfl ((zv (zD (d:=yr m λi=>-(lb i)) ?_)).trans (zA ?_))
 ·refine(zb (xs:=[.list ((List.range m).map λi=>fr (-(lb i)))]) (zj (zS (zU (xs:=List.range m) (e:=λi=>fr (lb i)) (v8 ((zd rfl rfl).trans wB)) (by rw[qu];omega) λi _=>yy.trans (zk1 (i:=0) rfl))) rfl)).trans rfl
 ·exact(zb (zj rfl (zj ((VL ((zd rfl rfl).trans jY) ((zd rfl rfl).trans jW) rfl).trans rfl) rfl))).trans (ub hn hm hs)
end
def Ex(n B X:Nat)(q:Q1x):Prop:=∃(l:Z1x)(M:Nat),0<M/\M<=X/\∀x,x<n->(l x).natAbs<=B/\(l x:Rat)=(M:Rat)*q x
structure Rz(n B X s len:Nat):Prop where
 hl:len+1<500
 hs:3*s<=8999
 hz:∀j,j<=len+1->j<=n->X*(n*B) ^ j<2 ^ s/\n*((n*(n*B) ^ j)*B)<2 ^ s
def Rz.rb{n B X s:Nat}{L:LQr}(h:Rz n B X s L.length)(hL:∀q∈L,Ex n B X q):Rb n B X s L:=⟨hL,by have:=h.hl;omega,h.hs,λj hj hn=>h.hz j (by omega) hn⟩
def Rz.rb1{n B X s:Nat}{L:LQr}{x:Q1x}(h:Rz n B X s L.length)(hL:∀q∈L,Ex n B X q)(hx:Ex n B X x):Rb n B X s (L++[x]):=⟨λq hq=>by
 rcases qr.mp hq with z|z
 ·exact hL q z
 ·rw[qQ.mp z];exact hx,by rw[qy];exact h.hl,h.hs,λj hj hn=>h.hz j (by rw[qy] at hj;exact hj) hn⟩
def Sw(n s:Nat)(fi:Q1x)(st:Q3x)(la:Q1x)(K:LQr):Prop:=InQ n K fi/\∀r∈K,sumTo n (λi=>r i*la i)=0/\∀g,g<s->InQ n K (led n r (st g))
def zcm{n s B X z kr ks kl:Nat}{x y:PdX}{fi la:Q1x}{st:Q3x}{K:LQr}(hb:uU [x,y]=some (zq n s fi st la))(hn:n<=42)(hs:s<=42)(hz:Rz n B X z K.length)(hK:∀q∈K,Ex n B X q)(hfi:Ex n B X fi)(hled:∀r∈K,∀g,g<s->Ex n B X (led n r (st g)))(hkr:∀r∈K,∀i,i<n->Sk kr (r i))(hks:∀g a b,g<s->a<n->b<n->Sk ks (st g a b))(hkl:∀i,i<n->Sk kl (la i))(k1:kr+ks<=398)(k2:kr+kl<=398):∃b:Bool,wK [x,y,.list (zB n K)]=some (.bool b)/\(b=true↔Sw n s fi st la K):=by
 have hl:=hz.hl;have rbK:=hz.rb hK
 obtain⟨b0,e0,i0⟩:=JO hn (hz.rb1 hK hfi) rbK;have ek:zR 1 [] (yw (gv 2)) (bN 0) (yg (y3 uB (aC (gv 0) a0))) [.pu x,.pu y,.pu (.list (zB n K)),.pu (zq n s fi st la),.no,.no,.no]=some (zB n K):=zU (xs:=K) (e:=yp n) (jt rfl) (by omega) λq _=>yy.trans rfl
 have et:WT (zG (ZZ yU (aC (gb 4) (aC (yg (y3 uB (aC (op2 ixD (gv 3) (cst (.int 0))) a0))) a0)))) [.pu x,.pu y,.pu (.list (zB n K)),.pu (zq n s fi st la),.ow (zB n K),.no,.no]=some (!b0):=V0 (zE (zhM (r:=.bool b0) (zj rfl (zj (zS ((yY (zj ((zd rfl rfl).trans jY) rfl)).trans rfl)) rfl)) e0 rfl));have head:∀r,sq (ifS (WT (zG (ZZ yU (aC (gb 4) (aC (yg (y3 uB (aC (op2 ixD (gv 3) (cst (.int 0))) a0))) a0))))) (retS (cst (.bool false))) s0) r [.pu x,.pu y,.pu (.list (zB n K)),.pu (zq n s fi st la),.ow (zB n K),.no,.no]=if b0=true then r [.pu x,.pu y,.pu (.list (zB n K)),.pu (zq n s fi st la),.ow (zB n K),.no,.no] else some (.rt (.bool false)):=λr=>by
  cases b0 with
  |true=>rw[qj rfl];exact zv ((jZ et).trans rfl)
  |false=>rw[qo qL];exact za1 ((uF et).trans (zA rfl))
 by_cases hb0:b0=true
 ·-- the rows one by one
  have loop:=zdc (it:=yw (gv 4)) (bd:=bN 5) (ds:=zB n K) (d:=.bool false)
   (b:=sq (ifS (zG (op2 neD (op2 ixD (zg xp (aC (gv 5) (aC (op2 ixD (gv 3) (cst (.int 2))) a0))) (cst (.int 0))) (cst (.int 0)))) (retS (cst (.bool false))) s0)
 (jS (yw (op2 ixD (gv 3) (cst (.int 1)))) (bN 6) (ifS (WT (zG (zg yU (aC (gv 4) (aC (yg (y3 xo (aC (gv 5) (aC (gv 6) a0)))) a0))))) (retS (cst (.bool false))) s0)))
   (ρ0:=[.pu x,.pu y,.pu (.list (zB n K)),.pu (zq n s fi st la),.pu (.list (zB n K)),.no,.no]) (λρ=>∃o5 o6,ρ=[.pu x,.pu y,.pu (.list (zB n K)),.pu (zq n s fi st la),.pu (.list (zB n K)),o5,o6])
   (λi=>∀r,K[i]?=some r->sumTo n (λi=>r i*la i)=0/\∀g,g<s->InQ n K (led n r (st g))) (jt rfl) ⟨.no,.no,rfl⟩ (λi dd ρ hd ⟨o5,o6,e⟩=>by
    subst e;rw[qq] at hd;obtain⟨r,hr,rfl⟩:=map_some hd;have hrm:=qN hr;refine⟨_,rfl,?_⟩;have ed:xp [yp n r,yr n la]=some (fr (sumTo n λi=>r i*la i)):=UG (t:=false) (u:=true) (k:=kr+kl) hn (by omega) λi hi=>⟨(hkr r hrm i hi).bq (by omega),(hkl i hi).bq (by omega),(hkr r hrm i hi).mul (hkl i hi)⟩
    have eT:zG (op2 neD (op2 ixD (zg xp (aC (gv 5) (aC (op2 ixD (gv 3) (cst (.int 2))) a0))) (cst (.int 0))) (cst (.int 0))) [.pu x,.pu y,.pu (.list (zB n K)),.pu (zq n s fi st la),.pu (.list (zB n K)),.pu (yp n r),o6]=some (decide (sumTo n (λi=>r i*la i)≠0)):=VG ((zb (zj rfl (zj ((zd rfl rfl).trans wB) rfl))).trans ed);by_cases hd0:sumTo n (λi=>r i*la i)=0
    ·have inner:=zdc (it:=yw (op2 ixD (gv 3) (cst (.int 1)))) (bd:=bN 6) (ds:=(List.range s).map λg=>yE n (st g)) (d:=.bool false)
      (b:=ifS (WT (zG (zg yU (aC (gv 4) (aC (yg (y3 xo (aC (gv 5) (aC (gv 6) a0)))) a0))))) (retS (cst (.bool false))) s0)
      (ρ0:=[.pu x,.pu y,.pu (.list (zB n K)),.pu (zq n s fi st la),.pu (.list (zB n K)),.pu (yp n r),o6]) (λρ=>∃o6,ρ=[.pu x,.pu y,.pu (.list (zB n K)),.pu (zq n s fi st la),.pu (.list (zB n K)),.pu (yp n r),o6])
      (λg=>InQ n K (led n r (st g))) (v8 ((zd rfl rfl).trans jW)) ⟨o6,rfl⟩ (λg dd ρ hd ⟨o6,e⟩=>by
       subst e;obtain⟨hg,rfl⟩:g<s/\dd=yE n (st g):=by
        rw[qq] at hd;obtain⟨g',hg',rfl⟩:=map_some hd;have hlt:=(qg.mp hg').1;rw[qu] at hlt;rw[kd hlt] at hg';cases hg';exact⟨hlt,rfl⟩
       refine⟨_,rfl,?_⟩;obtain⟨b1,e1,i1⟩:=JO hn (hz.rb1 hK (hled r hrm g hg)) rbK;have eg:WT (zG (zg yU (aC (gv 4) (aC (yg (y3 xo (aC (gv 5) (aC (gv 6) a0)))) a0)))) [.pu x,.pu y,.pu (.list (zB n K)),.pu (zq n s fi st la),.pu (.list (zB n K)),.pu (yp n r),.pu (yE n (st g))]=some (!b1):=V0 (zE ((zb (zj rfl (zj (zS ((yY rfl).trans (ZX (t:=false) hn (hkr r hrm) (λa b ha hb=>hks g a b hg ha hb) (by omega)))) rfl))).trans e1));cases b1 with
       |true=>exact .inl ⟨i1.mp rfl,_,(jZ eg).trans rfl,_,rfl⟩
       |false=>exact .inr ⟨λz=>(by have:=i1.mpr z;cases this),(uF eg).trans (zA rfl)⟩)
     rw[qe,qu] at inner;rcases inner with⟨a1,ρ',a2,o6',rfl⟩|⟨a1,a2⟩
     ·exact .inl ⟨λr' hr'=>by rw[hr] at hr';cases hr';exact⟨hd0,λg hg=>a1 g hg⟩,_,(zv ((jZ (eT.trans (by rw[qM λz=>z hd0]))).trans rfl)).trans a2,_,_,rfl⟩
     ·exact .inr ⟨λz=>a1 λg hg=>(z r hr).2 g hg,(zv ((jZ (eT.trans (by rw[qM λz=>z hd0]))).trans rfl)).trans a2⟩
    ·exact .inr ⟨λz=>hd0 (z r hr).1,za1 ((uF (eT.trans (by rw[qG hd0]))).trans (zA rfl))⟩)
  rw[qe] at loop;have hi0:=i0.mp hb0;rcases loop with⟨a1,ρ',a2,o5,o6,rfl⟩|⟨a1,a2⟩
  ·refine⟨true,zL rfl ((zv (zD ((zb rfl).trans hb))).trans ((zv (yI ek)).trans ((head _).trans ?_))),λ_=>⟨hi0,λr hr=>?_⟩,λ_=>rfl⟩
   ·rw[qj hb0];exact(zv (show frS 4 _ _=_ from a2)).trans (zA rfl)
   ·obtain⟨i,hi⟩:=qP hr;exact a1 i (qg.mp hi).1 r hi
  ·refine⟨false,zL rfl ((zv (zD ((zb rfl).trans hb))).trans ((zv (yI ek)).trans ((head _).trans ?_))),λz=>(by cases z),λz=>absurd (λi _ r hr=>z.2 r (qN hr)) a1⟩;rw[qj hb0];exact za1 (show frS 4 _ _=_ from a2)
 ·refine⟨false,zL rfl ((zv (zD ((zb rfl).trans hb))).trans ((zv (yI ek)).trans ((head _).trans (qo hb0)))),λz=>(by cases z),λz=>absurd (i0.mpr z.1) hb0⟩
abbrev KL(L:WR):List (Nat->Rat):=L.map λq=>rt q.2
section
variable{n s k B m:Nat}{st:Q3x}{fi la:Q1x}{L:WR}{CS:AdX}
def zgT{x y:PdX}(h:xB CS [x,y]=some (.tuple [.none,.list (L.map λq=>yi n q.2)]))(hn:n<=42)(hl:L.length<=1000):we CS [x,y]=some (.list (zB n (KL L))):=by
 refine zL rfl ((zv (zD ((zb rfl).trans h))).trans ((zv ((jZ (zE ?_)).trans rfl)).trans (zA (zS ?_))))
 ·rfl
 ·refine(zU (xs:=L) (e:=λq=>yi n q.2) (d:=λq=>yp n (rt q.2)) (jt rfl) (by omega) λq _=>?_).trans (qR some (show _=(L.map λq=>rt q.2).map (yp n) by rw[kY];rfl));refine yy.trans (zS ?_);exact zU (xs:=List.range n) (e:=λi=>.int (q.2 i)) (d:=λi=>fr (rt q.2 i)) (jt rfl) (by rw[qu];omega) λi _=>yy.trans ((jU rfl (by show 2<=16777216;omega)).trans rfl)
def zfr{R:LZr}{x:Q1x}:In n R.reverse x↔InQ n (R.map rt) x:=by
 constructor
 ·intro h w hw;exact h w λr hr=>hw _ (qT.mpr ⟨r,kn.mp hr,rfl⟩)
 ·intro h w hw;refine h w λl hl=>?_
  obtain⟨r,hr,rfl⟩:=qT.mp hl;exact hw r (kn.mpr hr)
def zcE.sw(h:zcE n s st fi la L)(hs:0<s):Sw n s fi st la (KL L):=by
 have⟨T,F,C,d,a,h1,h2,h3⟩:=h;have e:KL L=(L.map (·.2)).map rt:=by rw[kY];rfl
 rw[e];refine⟨zfr.mp (h1.rs.zeo hs h2 [] λg hg=>by cases hg),λr hr=>?_⟩;rw[<-e] at hr;obtain⟨q,hq,rfl⟩:=qT.mp hr;refine⟨?_,λg hg=>zfr.mp (h1.rs.Wx hs h2 g _ hg λw hw=>hw q.2 (kn.mpr (qT.mpr ⟨q,hq,rfl⟩)))⟩;have⟨c,hc,hr⟩:=h1.mult hq;have e2:sumTo n (λi=>rt q.2 i*la i)=wt n st fi la q.1*c:=by
  unfold wt;rw[<-zM];exact zf n λi hi=>by
   show(q.2 i:Rat)*la i=_
   rw[hr i hi];grind
 rw[e2,h3 q hq,kK]
def zcE.len(h:zcE n s st fi la L):L.length<=n:=by
 have⟨T,F,C,d,a,h1,h2,h3⟩:=h;have l:=h1.lens;omega
def zcE.abs(h:zcE n s st fi la L)(b:Bd n s st fi k B m):∀q∈L,∀x,x<n->(q.2 x).natAbs<=B:=by
 have⟨T,F,C,d,a,h1,h2,h3⟩:=h;exact λq hq=>h1.abs b hq
end
def Ex.mono{n B X B' X':Nat}{q:Q1x}(h:Ex n B X q)(hB:B<=B')(hX:X<=X'):Ex n B' X' q:=by
 have⟨l,M,h1,h2,h3⟩:=h;exact⟨l,M,h1,qw h2 hX,λx hx=>⟨qw (h3 x hx).1 hB,(h3 x hx).2⟩⟩
def zhu{n M N:Nat}{q:Q1x}(hM:0<M)(h:∀x,x<n->InB M N (q x)):Ex n N M q:=⟨λx=>jx (q x) M,M,hM,qf _,λx hx=>⟨(VX (h x hx)).2,by rw[(VX (h x hx)).1];exact kX _ _⟩⟩
def zlD{n B:Nat}{r:Z1x}(h:∀x,x<n->(r x).natAbs<=B):Ex n B 1 (rt r):=⟨r,1,by decide,qf _,λx hx=>⟨h x hx,by show(r x:Rat)=((1:Nat):Rat)*(r x:Rat);rw[show((1:Nat):Rat)=1 from rfl,nZ]⟩⟩
def zdt{B:Nat}{z:Int}(h:z.natAbs<=B):InB 1 B (z:Rat):=⟨by decide,z,by rw[show((1:Nat):Rat)=1 from rfl,Rat.mul_one],h⟩
def zl8{b k:Nat}{z:Int}(h:z.natAbs<=2 ^ b)(hk:b+3*k<=8*k):Sk k (z:Rat):=by
 have:=InB.up (zdt h) (c:=6 ^ k) (yq k);rw[mi] at this;exact this.mono (xy (qf _) (zay k) hk)
end L2.Fu
namespace L2.Fu
open PySem WS WD WD.DT
def Tb(a b:Nat)(q:Rat):Prop:=InB (6 ^ a) (2 ^ b) q
def Tb.zero(a b:Nat):Tb a b 0:=InB.zero (yq a)
def Tb.mul{a b c d:Nat}{q r:Rat}(h:Tb a b q)(k:Tb c d r):Tb (a+c) (b+d) (q*r):=by
 have:=InB.mul h k;rw[<-Nat.pow_add,<-Nat.pow_add] at this;exact this
def Tb.up{a b c d:Nat}{q:Rat}(h:Tb a b q)(hc:a<=c)(hd:b+3*(c - a)<=d):Tb c d q:=by
 obtain⟨e,rfl⟩:=bw hc
 have:=InB.up h (c:=6 ^ e) (yq e);rw[<-Nat.pow_add] at this;exact this.mono (xy (qf _) (zay e) (by omega))
def Tb.sum{n a b v:Nat}{f:Q1x}(hn:n<=2 ^ v)(h:∀i,i<n->Tb a b (f i)):Tb a (b+v) (sumTo n f):=(xJ (yq a) n h).mono (xy hn (qf _) (by omega))
def Tb.sk{a b k:Nat}{q:Rat}(h:Tb a b q)(hk:a<=k)(hb:b+3*(k - a)<=8*k):Sk k q:=Tb.up h hk hb
def Tb.neg{a b:Nat}{q:Rat}(h:Tb a b q):Tb a b (-q):=by
 have⟨x,e,hx⟩:=h.ex;exact⟨h.pos,-x,by rw[m9,<-e];grind,by rw[ny];exact hx⟩
def Fq.tb{q:Rat}(h:Fq q):Tb 1 5 q:=h
structure Wm(n s:Nat)(fi:Q1x)(st:Q3x)(p q:Nat)(α β:Nat->Nat):Prop where
 fi:∀x,x<n->Tb (α x) (β x) (fi x)
 st:∀g x y,g<s->x<n->y<n->st g x y=0\/(α x<=α y/\β x<=β y/\Tb (α y - α x+p) (β y - β x+q) (st g x y))
theorem Wm.row{n s p q v:Nat}{fi:Q1x}{st:Q3x}{α β:Nat->Nat}(h:Wm n s fi st p q α β)(hn:n<=2 ^ v):∀(l:Nat)(u:LNt),u.length=l->(∀g∈u,g<s)->∀y,y<n->Tb (α y+l*p) (β y+l*(q+v)) (zN n st fi u y)
 |0,u,hu,_,y,hy=>by
  have e:u=[]:=gB.mp hu;subst e;rw[Nat.zero_mul,Nat.zero_mul];exact h.fi y hy
 |l+1,u,hu,hg,y,hy=>by
  rcases zfC u with e|⟨w,g,e⟩
  ·rw[e] at hu;simp at hu
  subst e;have hw:w.length=l:=by simpa using hu
  have ih:=h.row hn l w hw λg' hg'=>hg g' (qr.mpr (.inl hg'))
  have hgs:g<s:=hg g (qr.mpr (.inr (qQ.mpr rfl)));rw[vS]
  have:=Tb.sum (a:=α y+(l+1)*p) (b:=β y+l*(q+v)+q) (f:=λx=>zN n st fi w x*st g x y) hn λx hx=>by
   rcases h.st g x y hgs hx hy with z|⟨z1,z2,z3⟩
   ·rw[z,gA];exact Tb.zero _ _
   ·have e1:α x+l*p+(α y - α x+p)=α y+(l+1)*p:=by rw[gH];omega
    have e2:β x+l*(q+v)+(β y - β x+q)=β y+l*(q+v)+q:=by omega
    have:=(ih x hx).mul z3;rw[e1,e2] at this;exact this
  rw[show β y+(l+1)*(q+v)=β y+l*(q+v)+q+v by rw[gH];omega];exact this
def jnN(n:Nat)(f g:Nat->Nat):Nat->Nat:=λx=>if x<n then f x else g (x - n)
def Wm.add{n m s p q:Nat}{fi gi:Q1x}{st su:Q3x}{α β α' β':Nat->Nat}(A:Wm n s fi st p q α β)(B:Wm m s gi su p q α' β'):Wm (n+m) s (jn n fi gi) (jb n st su) p q (jnN n α α') (jnN n β β') where
 fi:=λx hx=>by
  unfold jn jnN;by_cases z:x<n
  ·rw[qj z,qj z,qj z];exact A.fi x z
  ·rw[qo z,qo z,qo z];exact B.fi (x - n) (by omega)
 st:=λg x y hg hx hy=>by
  unfold jb jnM jn jnN;by_cases z:x<n
  ·rw[qj z];by_cases w:y<n
   ·rw[qj w,qj z,qj w,qj z,qj w];exact A.st g x y hg z w
   ·rw[qo w];exact .inl rfl
  ·rw[qo z];by_cases w:y<n
   ·rw[qj w];exact .inl rfl
   ·rw[qo w,qo z,qo w,qo z,qo w];exact B.st g (x - n) (y - n) hg (by omega) (by omega)
structure jy(n s:Nat)(fi:Q1x)(st:Q3x)(la:Q1x)(a b:Nat):Prop where
 fi:∀x,x<n->Tb a b (fi x)
 st:∀g x y,g<s->x<n->y<n->Tb a b (st g x y)
 la:∀x,x<n->Tb a b (la x)
section
variable{n m s a b:Nat}{fi gi la lb:Q1x}{st su:Q3x}
def zaY.tb(h:zaY n s fi st la):jy n s fi st la 1 5:=⟨λx hx=>(h.fi x hx).tb,λg x y hg hx hy=>(h.st g x y hg hx hy).tb,λx hx=>(h.la x hx).tb⟩
def jy.up{c d:Nat}(h:jy n s fi st la a b)(hc:a<=c)(hd:b+3*(c - a)<=d):jy n s fi st la c d:=⟨λx hx=>(h.fi x hx).up hc hd,λg x y hg hx hy=>(h.st g x y hg hx hy).up hc hd,λx hx=>(h.la x hx).up hc hd⟩
def jy.wm(h:jy n s fi st la a b):Wm n s fi st a b (λ_=>a) λ_=>b:=⟨h.fi,λg x y hg hx hy=>.inr ⟨qf _,qf _,by rw[gm,gm,nr,nr];exact h.st g x y hg hx hy⟩⟩
def jy.turned(h:jy n s fi st la a b):jy n s la (λg x y=>st g y x) fi a b:=⟨h.la,λg x y hg hx hy=>h.st g y x hg hy hx,h.fi⟩
def zde{f g:Q1x}(hf:∀x,x<n->Tb a b (f x))(hg:∀x,x<m->Tb a b (g x))(x:Nat)(hx:x<n+m):Tb a b (jn n f g x):=by
 unfold jn;by_cases z:x<n
 ·rw[qj z];exact hf x z
 ·rw[qo z];exact hg (x - n) (by omega)
def jy.add(A:jy n s fi st la a b)(B:jy m s gi su lb a b):jy (n+m) s (jn n fi gi) (jb n st su) (jn n la lb) a b where
 fi:=zde A.fi B.fi
 st:=λg x y hg hx hy=>by
  unfold jb jnM;by_cases z:x<n
  ·rw[qj z];exact zde (λy hy=>A.st g x y hg z hy) (λy _=>Tb.zero _ _) y hy
  ·rw[qo z];exact zde (λy _=>Tb.zero _ _) (λy hy=>B.st g (x - n) y hg (by omega) hy) y hy
 la:=zde A.la B.la
end
end L2.Fu
namespace L2.Fu
open PySem WS WD WD.DT
open PySem.Builtin.Int (intBits)
section
variable{n m s β:Nat}{fi gi la lb:Q1x}{st su:Q3x}{CS:AdX}
def jy.mach{a b k:Nat}(h:jy n s fi st la a b)(hk:a<=k)(hb:b+3*(k - a)<=8*k):Mach n s fi st la k:=⟨λx hx=>(h.fi x hx).sk hk hb,λg x y hg hx hy=>(h.st g x y hg hx hy).sk hk hb,λx hx=>(h.la x hx).sk hk hb⟩
def zka(w:LNt):wt (n+m) (jb n st su) (jn n fi gi) (jn n la λi=>lb i*(-1)) w=wt n st fi la w - wt m su gi lb w:=by
 rw[VQ w (jn n fi gi) fi gi λ_ _=>rfl];have e:wt m su gi (λi=>lb i*(-1)) w=wt m su gi lb w*(-1):=by
  unfold wt;rw[<-zM];exact zf m λi _=>by grind
 rw[e];grind
def zed{a b:Nat}(A:jy n s fi st la a b)(B:jy m s gi su lb a b)(ha:a<=13)(hb:b+3*(13 - a)<=104)(hN:n+m<=14)(hs:s<=42)(hs0:0<s)(hrow:∀u:List Nat,(∀g∈u,g<s)->u.length<=n+m - 1->∃M,0<M/\∀x,x<n+m->InB M (2 ^ β) (zN (n+m) (jb n st su) (jn n fi gi) u x))(hβ:(β+b+8)*(n+m)+(β+b+12+3*a)<=2980)(hb1:β<=1900)(al:∀w:List Nat,(∀g∈w,g<s)->wt n st fi la w=wt m su gi lb w):∃K:List (Nat->Rat),(∃d,xB CS [zq n s fi st la,zq m s gi su lb]=some (.tuple [.none,d]))/\we CS [zq n s fi st la,zq m s gi su lb]=some (.list (zB (n+m) K))/\wK [zq n s fi st la,zq m s gi su lb,.list (zB (n+m) K)]=some (.bool true):=by
 have D:=A.add B;have hβN:(β+4)*(n+m)<9000:=by
  have:(β+4)*(n+m)<=(β+b+8)*(n+m):=qZ _ (by omega);omega
 have hd:=difference_eq (fi:=fi) (st:=st) (la:=la) (B.mach (k:=13) ha hb) (by decide) (show n<=42 by omega) (show m<=42 by omega) hs;have bd:Bd (n+m) s (jb n st su) (jn n fi gi) (6 ^ a) (2 ^ β) (n+m):={
  hn:=by omega
  hs:=hs
  hs0:=hs0
  hst:=λg x y hg hx hy=>InB.mono (D.st g x y hg hx hy) (kv (by decide) (by omega))
  hk0:=yq a
  hk:=qw (zay a) (kv (by decide) (by omega))
  hB:=kv (by decide) (by omega)
  hP:=λj hj=>lt9 (Ui (xy (show n+m<=2 ^ 4 by omega) (qf _) (qf _)) (qf _)) (by
   have:(4+β)*j<=(4+β)*(n+m):=gY _ hj;rw[nU 4 β] at this ⊢;omega)
  hw:=λu hg hu=>by
   have⟨M,hM,h⟩:=hrow u hg hu;exact⟨((M:Nat):Rat),λx=>jx (zN (n+m) (jb n st su) (jn n fi gi) u x) M,ja hM,λx hx=>VX (h x hx)⟩
  hm:=λL T F C d a h=>by
   have l1:=h.lenT;have l2:=h.sp.few
   rw[qe] at l1;omega }
 have hla:∀i,i<n+m->Sk 13 (jn n la (λi=>lb i*(-1)) i):=λi hi=>(zde A.la (λx hx=>by rw[show lb x*(-1)=-(lb x) by grind];exact(B.la x hx).neg) i hi).sk ha hb
 rcases zcr (CS:=CS) (k0:=13) (l0:=13) hd bd (λi hi=>(D.fi i hi).sk ha hb) (by decide) hla (by decide) with⟨L,e,w⟩|⟨L,u,e,w⟩
 ·have hL:=w.len;have habs:=w.abs bd
  have e2:=zgT (n:=n+m) e (by omega) (by omega);have hfn:(λi=>lb i*(-1))=λi=>-(lb i):=by funext i;grind
  have eb:=zdG (n:=n) (m:=m) (s:=s) (fi:=fi) (gi:=gi) (st:=st) (su:=su) (la:=la) (lb:=lb) (by omega) (by omega) hs;rw[<-hfn] at eb;have hKL:(KL L).length=L.length:=qe _
  have z:Rz (n+m) (2 ^ (β+b+4)) (6 ^ a) 2990 (KL L).length:=by
   refine⟨by rw[hKL];omega,by decide,λj hj hjn=>?_⟩;have b1:(n+m)*2 ^ (β+b+4)<=2 ^ (β+b+8):=xy (show n+m<=2 ^ 4 by omega) (qf _) (by omega);have b2:((n+m)*2 ^ (β+b+4)) ^ j<=2 ^ ((β+b+8)*(n+m)):=Ui b1 (gY _ hjn)
   constructor
   ·refine qI (xy (zay a) b2 (qf _)) (kS (by decide) (by omega))
   ·refine qI (xy (show n+m<=2 ^ 4 by omega) (xy (xy (show n+m<=2 ^ 4 by omega) b2 (qf _)) (qf (2 ^ (β+b+4))) (qf _)) (qf _)) (kS (by decide) (by omega))
  have one6:1<=6 ^ a:=yq a;obtain⟨b,e3,i3⟩:=zcm (kr:=385) (ks:=13) (kl:=13) eb (by omega) hs z
   (λq hq=>by
    obtain⟨r,hr,rfl⟩:=qT.mp hq;exact(zlD (habs r hr)).mono (kv (by decide) (by omega)) one6)
   ((zhu (yq a) λx hx=>D.fi x hx).mono (kv (by decide) (by omega)) (qf _))
   (λq hq g hg=>by
    obtain⟨r,hr,rfl⟩:=qT.mp hq;refine(zhu (M:=1*6 ^ a) (N:=(n+m)*(2 ^ β*2 ^ b)) (by rw[mi];exact yq a) λy hy=>xJ (by rw[mi];exact yq a) (n+m) λx hx=>(zdt (habs r hr x hx)).mul (D.st g x y hg hx hy)).mono (xy (show n+m<=2 ^ 4 by omega) (xy (qf _) (qf _) (qf _)) (by omega)) (by rw[mi];exact qf _))
   (λq hq i hi=>by
    obtain⟨r,hr,rfl⟩:=qT.mp hq;exact zl8 (habs r hr i hi) (by omega))
   (λg x y hg hx hy=>(D.st g x y hg hx hy).sk ha hb) hla (by omega) (by omega)
  have hsw:=w.sw hs0;rw[i3.mpr hsw] at e3;exact⟨KL L,⟨_,e⟩,e2,e3⟩
 ·have⟨w1,w2,w3,_⟩:=w.first hs0
  exact absurd (by rw[zka,al u w3];grind) w1
end
def zce{M N c:Nat}{q:Rat}(h:InB M N q)(hM:M<2 ^ c)(hN:N<2 ^ c):Bq c q:=⟨jE (qI h.num hN),jE (by rw[kT];exact qI (gc h.pos h.den) hM)⟩
def zgJ{t u:Bool}{n a b c M N:Nat}{f g:Q1x}(hn:n<=42)(hf:∀i,i<n->Bq a (f i)/\Bq b (g i)/\InB M N (f i*g i))(hab:a+b<=8999)(hM0:0<M)(hM:M<2 ^ c)(hN:n*N<2 ^ c)(hc:c+c<=8999):xp [qd t n f,qd u n g]=some (fr (sumTo n λi=>f i*g i)):=by
 refine zL rfl ?_;refine(zv (ρ':=[.pu (qd t n f),.pu (qd u n g),.pu (fr 0),.no]) rfl).trans ?_;obtain⟨ρ',e,o,rfl⟩:=wX (n:=n) (g:=aC (zg yj (aC (gv 0) a0)) a0) (bd:=bN 3)
  (b:=zX 2 (zg xf (aC (gv 2) (aC (zg yz (aC (op2 ixD (gv 0) (gv 3)) (aC (op2 ixD (gv 1) (gv 3)) a0))) a0))))
  (ρ0:=[.pu (qd t n f),.pu (qd u n g),.pu (fr 0),.no])
  (λi ρ=>∃o,ρ=[.pu (qd t n f),.pu (qd u n g),.pu (fr (sumTo i λi=>f i*g i)),o]) (zj ((zb rfl).trans (JQ t n f)) rfl) (by omega) ⟨.no,rfl⟩
  λi ρ hi ⟨o,e⟩=>by
   subst e;refine⟨_,_,rfl,zD ?_,.pu (.int (i:Int)),rfl⟩;refine(zb (zj rfl (zj ((zb (zj ((zd rfl rfl).trans (uf hi)) (zj ((zd rfl rfl).trans (uf hi)) rfl))).trans (JP (hf i hi).1 (hf i hi).2.1 hab)) rfl))).trans ?_;have h1:i*N<=n*N:=qZ _ (by omega);have h2:1*N<=n*N:=qZ _ (by omega)
   exact Z6 (zce (xJ hM0 i λj hj=>(hf j (by omega)).2.2) hM (by omega)) (zce (hf i hi).2.2 hM (by omega)) hc
 exact(zv e).trans (zA rfl)
section
variable{n s a b c R Nr S Ns:Nat}{st:Q3x}{fi la:Q1x}
structure Gz(n a b c R Nr S Ns:Nat):Prop where
 r:R<2 ^ a/\Nr<2 ^ a
 s:S<2 ^ b/\Ns<2 ^ b
 p:0<R/\0<S
 ab:a+b<=8999
 m:R*S<2 ^ c
 n:n*(Nr*Ns)<2 ^ c
 c:c+c<=8999
def Gz.le{m:Nat}(z:Gz n a b c R Nr S Ns)(h:m<=n):Gz m a b c R Nr S Ns:=⟨z.r,z.s,z.p,z.ab,z.m,qI (qZ _ h) z.n,z.c⟩
def Gz.dot{t u:Bool}{f g:Q1x}(z:Gz n a b c R Nr S Ns)(hn:n<=42)(hf:∀i,i<n->InB R Nr (f i))(hg:∀i,i<n->InB S Ns (g i)):xp [qd t n f,qd u n g]=some (fr (sumTo n λi=>f i*g i)):=zgJ hn (λi hi=>⟨zce (hf i hi) z.r.1 z.r.2,zce (hg i hi) z.s.1 z.s.2,(hf i hi).mul (hg i hi)⟩) z.ab (kH z.p.1 z.p.2) z.m z.n z.c
def zgo{t:Bool}{r:Q1x}{M:Q2x}(z:Gz n a b c R Nr S Ns)(hn:n<=42)(hr:∀x,x<n->InB R Nr (r x))(hM:∀x y,x<n->y<n->InB S Ns (M x y)):xo [qd t n r,yE n M]=some ((List.range n).map λb=>fr (led n r M b)):=by
 obtain⟨ρ1,e1,o,rfl⟩:=wX (n:=n) (g:=aC (zg yj (aC (gv 0) a0)) a0) (bd:=bN 3)
  (b:=apS 2 (zg xp (aC (gv 0) (aC (yg (zR 1 [1,3] (y4 (aC (zg yj (aC (gv 0) a0)) a0)) (bN 0) (op2 ixD (op2 ixD (gv 1) (gv 0)) (gv 2)))) a0))))
  (ρ0:=[.pu (qd t n r),.pu (yE n M),.ow [],.no])
  (λi ρ=>∃o,ρ=[.pu (qd t n r),.pu (yE n M),.ow ((List.range i).map λb=>fr (led n r M b)),o]) (zj ((zb rfl).trans (JQ t n r)) rfl) (by omega) ⟨.no,rfl⟩
  λb ρ hb ⟨o,e⟩=>by
   subst e;refine⟨_,_,rfl,JI (d:=fr (led n r M b)) rfl ?_ (by rw[qe,qu];omega),.pu (.int (b:Int)),by rw[<-Jb];rfl⟩;refine(zb (xs:=[qd t n r,qd false n λa=>M a b]) (zj rfl (zj (zS (jQ (n:=n) (zj ((zb rfl).trans (JQ t n r)) rfl) (by omega) λa ha=>?_)) rfl))).trans (z.dot hn hr λx hx=>hM x b hx hb);exact(zd ((zd rfl rfl).trans (ziy ha)) rfl).trans (uf (t:=true) hb)
 refine vA rfl ?_;exact(zv (ρ':=[.pu (qd t n r),.pu (yE n M),.ow [],.no]) rfl).trans ((zv e1).trans (jH rfl))
def zbu{S' Ns':Nat}{ws:LNt}(z:Gz n a b c R Nr S Ns)(z':Gz n a b c R Nr S' Ns')(hn:n<=42)(hrow:∀u:List Nat,(∀g∈u,g<s)->u.length<=ws.length->∀x,x<n->InB R Nr (zN n st fi u x))(hst:∀g x y,g<s->x<n->y<n->InB S Ns (st g x y))(hla:∀x,x<n->InB S' Ns' (la x))(hg:∀g∈ws,g<s):yT [zq n s fi st la,yt ws]=some (fr (wt n st fi la ws)):=by
 have er:uv [zq n s fi st la,yt ws]=some ((List.range n).map λa=>fr (zN n st fi ws a)):=by
  obtain⟨ρ1,e1,o,rfl⟩:=uS (ds:=ws.map λ(g:Nat)=>PyData.int (g:Int)) (it:=yw (gv 1)) (bd:=bN 3)
   (b:=frS 2 (jc 2 (y3 xo (aC (gv 2) (aC (op2 ixD (op2 ixD (gv 0) (cst (.int 1))) (gv 3)) a0)))))
   (ρ0:=[.pu (zq n s fi st la),.pu (yt ws),.ow ((List.range n).map λa=>fr (fi a)),.no])
   (λi ρ=>∃o,ρ=[.pu (zq n s fi st la),.pu (yt ws),.ow ((List.range n).map λa=>fr (zN n st fi (ws.take i) a)),o]) rfl ⟨.no,rfl⟩
   λi d ρ hd ⟨o,e⟩=>by
    subst e;rw[qq] at hd;obtain⟨g,hgi,rfl⟩:=map_some hd;have hgs:=hg g (qN hgi);refine⟨_,_,rfl,yI ?_,.pu (.int (g:Int)),rfl⟩;refine(yY (xs:=[qd false n (zN n st fi (ws.take i)),yE n (st g)]) (zj rfl (zj ((zd ((zd rfl rfl).trans jW) rfl).trans (VR hgs)) rfl))).trans ?_;rw[za2 hgi];exact zgo z hn (hrow _ (λx hx=>hg x (pf hx)) (by rw[kD];omega)) λx y hx hy=>hst g x y hgs hx hy
  refine vA rfl ?_;refine(zv (ρ':=[.pu (zq n s fi st la),.pu (yt ws),.ow ((List.range n).map λa=>fr (fi a)),.no]) rfl).trans ((zv e1).trans (jH ?_));rw[qe,gx];rfl
 refine zL rfl (zA ?_);refine(zb (xs:=[qd false n (zN n st fi ws),qd true n la]) (zj (zS ((yY rfl).trans er)) (zj ((zd rfl rfl).trans wB) rfl))).trans ?_;exact z'.dot hn (hrow ws hg (qf _)) hla
end
end L2.Fu
namespace L2.Fu
open PySem WS WD WD.DT
def Ys{n s m:Nat}{st:Q3x}{fi la:Q1x}{Ms Ns Mr Nr Mc Nc E E2 R0 N0 a b c:Nat}{CS:AdX}{ws:LNt}(h:Szs n s m st fi la Ms Ns Mr Nr Mc Nc E E2)(hrow0:∀u:List Nat,(∀g∈u,g<s)->u.length<=ws.length->∀x,x<n->InB R0 N0 (zN n st fi u x))(hR0:0<R0)(hg:∀g∈ws,g<s)(zz:∀D1 D2,0<D1->D1<=E->0<D2->D2<=E2->Gz n a b c (D2*R0) (n*(E2*N0)) (D2*(D1*Ms)) (n*(E2*(n*(E*Ns))))/\Gz n a b c (D2*R0) (n*(E2*N0)) (D1*Mc) (n*(E*Nc))):∃r fi' st' la',xV CS [zq n s fi st la]=some (zq r s fi' st' la')/\Jz CS [zq n s fi st la]=some (.int (r:Int))/\yT [zq r s fi' st' la',yt ws]=some (fr (wt n st fi la ws))/\
   (∀w:List Nat,(∀g∈w,g<s)->wt r st' fi' la' w=wt n st fi la w)/\∀{n':Nat} {su:Q3x} {gi lb:Q1x},(∀w:List Nat,(∀g∈w,g<s)->wt n' su gi lb w=wt n st fi la w)->r<=n':=by
 obtain⟨L,T,F,C,d,a',Ts,L',T',F',C',d',a2,Ts',iv,hd,hp,iv',hd',hp',e,hn1,hn2,⟨D1,p1,q1,hσ1⟩,D2,p2,q2,hσ2⟩:=Ul (CS:=CS) h;have hn:=h.hn;obtain⟨w1,w2⟩:=zdp (iv.rs.mn (la:=la) h.hs0 hd hp) (iv'.rs.mn (la:=u3 (pl Ts) fi) h.hs0 hd' hp');have⟨z,z'⟩:=zz D1 D2 p1 q1 p2 q2
 have S1:=iv.rs.sp.sh hp;have S2:=iv'.rs.sp.sh hp'
 have hl1:=λg x hg hx=>iv.rs.Wx h.hs0 hd g x hg hx
 have hl2:=λg x hg hx=>iv'.rs.Wx h.hs0 hd' g x hg hx
 have h01:In n (L.map (·.2)).reverse fi:=iv.rs.zeo h.hs0 hd [] λg hg=>by cases hg
 have l0:∀i,i<n->InB Mc Nc (la i):=λi hi=>h.hcol [] (λg hg=>by cases hg) (kE _) i hi
 have up:∀{x y:Nat},x<=y->∀k:Nat,x*k<=y*k:=λh k=>qZ k h
 have st1:∀g x y,g<s->x<T.length->y<T.length->InB (D1*Ms) (n*(E*Ns)) (vh n (pl Ts) (sgs F C d Ts) st g x y):=λg x y hg hx hy=>xJ (kH p1 h.p.1) n λb hb=>(hσ1 x b hx).mul (h.hst g b _ hg hb (S1.lt y hy))
 refine⟨T'.length,_,_,_,e,zL rfl (zA ((zb (zj ((zd ((zb rfl).trans e) rfl).trans jY) rfl)).trans (x9 _ _))),?_,w1,λhw=>w2 hw⟩;rw[<-w1 ws hg];refine zbu (z.le (by omega)) (z'.le (by omega)) (by omega) (λu hu hul x hx=>?_) (λg x y hg hx hy=>?_) (λx hx=>?_) hg
 ·have er:=xA (n:=T'.length) (vh T.length (pl Ts') (sgs F' C' d' Ts') λg i j=>vh n (pl Ts) (sgs F C d Ts) st g j i) (uh T.length (sgs F' C' d' Ts') (u3 (pl Ts) fi)) u.reverse;rw[k8] at er;rw[er,S2.col hl2 u.reverse (λg hg'=>hu g (kn.mp hg')) x hx];refine(xJ (kH p2 hR0) T.length λi hi=>?_).mono (up hn2 _);rw[Vd,k8,(S1.row h01 hl1 u hu fi (u3 (pl Ts) fi) h01 λi _=>rfl).2 i hi];exact(hσ2 x i hx).mul (hrow0 u hu hul _ (S1.lt i hi))
 ·refine(xJ (kH p2 (kH p1 h.p.1)) T.length λi hi=>?_).mono (up hn2 _);exact(hσ2 y i hy).mul (st1 g _ _ hg (S2.lt x hx) hi)
 ·exact xJ (kH p1 h.p.2.2.1) n λi hi=>(hσ1 _ i (S2.lt x hx)).mul (l0 i hi)
end L2.Fu
namespace L2.Fu
open PySem PySem.Spec PyProof.Rows WS WD WD.DT
section
variable{n s:Nat}{fi la:Q1x}{st:Q3x}{i j:Nat}{c:Rat}
theorem U5(hi:i<n)(hj:j<n)(hij:i≠j):∀(u:LNt)(r:Q1x),zN n (vo i j c st) (trn i j c r) u=trn i j c (zN n st r u)
 |[],_=>rfl
 |g::u,r=>by
  show zN n (vo i j c st) (led n (trn i j c r) (vo i j c st g)) u=trn i j c (zN n st (led n r (st g)) u)
  rw[show led n (trn i j c r) (vo i j c st g)=trn i j c (led n r (st g)) from funext λb=>zaJ hi hj hij r g b];exact U5 hi hj hij u _
def zf9(hij:i≠j):(λg a b=>vo i j c st g b a)=vo j i (-c) λg a b=>st g b a:=by
 funext g a b
 unfold vo trn;by_cases h1:b=i<;>by_cases h2:a=j
 ·subst h1 h2;simp only [qj,qo hij,qo (gG hij)]<;>grind
 ·subst h1;simp only [qj,qo h2,qo hij,qo (gG hij)]<;>grind
 ·subst h2;simp only [qj,qo h1,qo hij,qo (gG hij)]<;>grind
 ·simp only [qo h1,qo h2]
def zep(hi:i<n)(hj:j<n)(hij:i≠j)(v:LNt):jK n (vo i j c st) (trn j i (-c) la) v=trn j i (-c) (jK n st la v):=by
 rw[<-xA (vo i j c st),<-xA st la v,zf9 hij];exact U5 hj hi (gG hij) v.reverse la
def ZU{a b:Nat}{f:Q1x}(hi:i<n)(hj:j<n)(hf:∀x,x<n->Tb a b (f x))(hc:Tb 1 5 c)(x:Nat)(hx:x<n):Tb (a+1) (b+6) (trn i j c f x):=by
 unfold trn;split
 ·have h1:Tb (a+1) (b+5) (f j):=(hf j hj).up (by omega) (by omega);have h2:Tb (a+1) (b+5) (c*f i):=by
   have:=hc.mul (hf i hi);rw[nU 1 a,nU 5 b] at this;exact this
  have:=InB.add h1 h2;rw[<-Nat.two_mul,<-Nat.pow_succ'] at this;exact this
 ·exact(hf x hx).up (by omega) (by omega)
def zh8{a b:Nat}(hi:i<n)(hj:j<n)(A:jy n s fi st la a b)(hc:Tb 1 5 c):jy n s (trn i j c fi) (vo i j c st) (trn j i (-c) la) (a+2) (b+12) where
 fi:=λx hx=>(ZU hi hj A.fi hc x hx).up (by omega) (by omega)
 st:=λg x y hg hx hy=>by
  have R:∀x,x<n->∀y,y<n->Tb (a+1) (b+6) (trn i j c (st g x) y):=λx hx=>ZU hi hj (λy hy=>A.st g x y hg hx hy) hc
  unfold vo;split
  ·have h1:Tb (a+2) (b+11) (trn i j c (st g i) y):=(R i hi y hy).up (by omega) (by omega);have h2:Tb (a+2) (b+11) (-c*trn i j c (st g j) y):=by
    have:=hc.neg.mul (R j hj y hy);rw[show 1+(a+1)=a+2 by omega,show 5+(b+6)=b+11 by omega] at this;exact this
   have:=InB.add h1 h2;rw[<-Nat.two_mul,<-Nat.pow_succ'] at this;exact this
  ·exact(R x hx y hy).up (by omega) (by omega)
 la:=λx hx=>(ZU hj hi A.la hc.neg x hx).up (by omega) (by omega)
structure Kb(n s:Nat)(fi:Q1x)(st:Q3x)(la:Q1x)(t:Nat):Prop where
 row:∀u:List Nat,(∀g∈u,g<s)->∀x,x<n->Tb (1+u.length+t) (5+u.length*8+6*t) (zN n st fi u x)
 col:∀u:List Nat,(∀g∈u,g<s)->∀x,x<n->Tb (1+u.length+t) (5+u.length*8+6*t) (jK n st la u x)
 mt:jy n s fi st la (1+2*t) (5+12*t)
def Kb.new(A:jy n s fi st la 1 5)(hn:n<=8):Kb n s fi st la 0 where
 row:=λu hg x hx=>by
  have:=A.wm.row (v:=3) (by omega) u.length u rfl hg x hx;rw[Nat.mul_one] at this;exact this
 col:=λu hg x hx=>by
  have:=A.turned.wm.row (v:=3) (by omega) u.reverse.length u.reverse rfl (λg h=>hg g (kn.mp h)) x hx;rw[xA,mv,Nat.mul_one] at this;exact this
 mt:=A
def Kb.mix{t:Nat}(A:Kb n s fi st la t)(hi:i<n)(hj:j<n)(hij:i≠j)(hc:Tb 1 5 c):Kb n s (trn i j c fi) (vo i j c st) (trn j i (-c) la) (t+1) where
 row:=λu hg x hx=>by
  rw[U5 hi hj hij];exact ZU hi hj (A.row u hg) hc x hx
 col:=λu hg x hx=>by
  rw[zep hi hj hij];exact ZU hj hi (A.col u hg) hc.neg x hx
 mt:=zh8 hi hj A.mt hc
def Kb.up{t:Nat}(A:Kb n s fi st la t):Kb n s fi st la (t+1) where
 row:=λu hg x hx=>(A.row u hg x hx).up (by omega) (by omega)
 col:=λu hg x hx=>(A.col u hg x hx).up (by omega) (by omega)
 mt:=A.mt.up (by omega) (by omega)
end
section
variable{n m s:Nat}{fi gi:Q1x}{st su:Q3x}{la lb:Q1x}
def zg1(c:Int){more:Nat}(hm:n+more<=8)(hs:s<=42)(A:zaY n s fi st la):∃fi' st' la',Wu [zq n s fi st la,.int c,.int (more:Int)]=some (zq (n+more) s fi' st' la')/\Kb (n+more) s fi' st' la' 3/\∀ws,wt (n+more) st' fi' la' ws=wt n st fi la ws:=by
 have ln0:∀(n':Nat)(fi:Q1x)(st:Q3x)(la:Q1x)(ρ:Ro),gv 0 ρ=some (zq n' s fi st la)->zg yj (aC (op2 ixD (gv 0) (cst (.int 0))) a0) ρ=some (.int (n':Int)):=λn' fi st la ρ h=>(zb (zj ((zd h rfl).trans jY) rfl)).trans (x9 n' _)
 have step1:∃fi1 st1 la1 c5 c6,(ifS (zG (op2 gtI (gv 2) (cst (.int 0)))) (sq (zX 5 (zg xX (aC (gv 1) (aC (gv 2) (aC (gv 4) a0)))))
   (sq (zX 6 (zg zW (aC (yg (zR 1 [] (y4 (aC (gv 2) a0)) (bN 0) (xj (aC (cst (.int 0)) (aC (cst (.int 1)) a0))))) a0)))
   (ifS (zG (op2 eqD (op2 xF (gv 1) (cst (.int 2))) (cst (.int 0)))) (zX 0 (zg xU (aC (gv 0) (aC (xj (aC (gv 6) (aC (op2 ixD (gv 5) (cst (.int 1))) (aC (op2 ixD (gv 5) (cst (.int 2))) a0)))) a0)))) (zX 0 (zg xU (aC (gv 0) (aC (xj (aC (op2 ixD (gv 5) (cst (.int 0))) (aC (op2 ixD (gv 5) (cst (.int 1))) (aC (gv 6) a0)))) a0))))))) s0)
   [.pu (zq n s fi st la),.pu (.int c),.pu (.int (more:Int)),.pu (.int (n:Int)),.pu (.int (s:Int)),.no,.no,.no,.no,.no]=some (.nx [.pu (zq (n+more) s fi1 st1 la1),.pu (.int c),.pu (.int (more:Int)),.pu (.int (n:Int)),.pu (.int (s:Int)),c5,c6,.no,.no,.no])/\Kb (n+more) s fi1 st1 la1 0/\∀ws,wt (n+more) st1 fi1 la1 ws=wt n st fi la ws:=by
  by_cases z:more=0
  ·subst z;exact⟨fi,st,la,.no,.no,(jZ (zE rfl)).trans rfl,Kb.new A.tb (by omega),λws=>rfl⟩
  ·obtain⟨gi,su,lb,e,B⟩:=UC c (n:=more) (s:=s) (by omega) hs;have B1:=B.tb;have none:zg zW (aC (yg (zR 1 [] (y4 (aC (gv 2) a0)) (bN 0) (xj (aC (cst (.int 0)) (aC (cst (.int 1)) a0))))) a0) [.pu (zq n s fi st la),.pu (.int c),.pu (.int (more:Int)),.pu (.int (n:Int)),.pu (.int (s:Int)),.pu (zq more s gi su lb),.no,.no,.no,.no]=some (yr more λ_=>0):=(zb (xs:=[.list ((List.range more).map λ_=>fr 0)]) (zj (zS (jQ (n:=more) rfl (by omega) λi _=>yy.trans rfl)) rfl)).trans rfl
   obtain⟨r2,hr2,er2⟩:=Wb (i:=c) (m:=2) (by decide);have cond:zG (op2 eqD (op2 xF (gv 1) (cst (.int 2))) (cst (.int 0))) [.pu (zq n s fi st la),.pu (.int c),.pu (.int (more:Int)),.pu (.int (n:Int)),.pu (.int (s:Int)),.pu (zq more s gi su lb),.pu (yr more λ_=>0),.no,.no,.no]=some (decide ((r2:Int)=0)):=zE ((zd ((zd rfl rfl).trans er2) rfl).trans (J5 _ _));have gt:zG (op2 gtI (gv 2) (cst (.int 0))) [.pu (zq n s fi st la),.pu (.int c),.pu (.int (more:Int)),.pu (.int (n:Int)),.pu (.int (s:Int)),.no,.no,.no,.no,.no]=some true:=(zE (show _=some (PyData.bool (decide ((0:Int)<(more:Int)))) from rfl)).trans (by rw[qG (by omega)])
   have pre:∀g:Ro->Option Fl,_:=λg=>(uF gt (f:=sq (zX 5 (zg xX (aC (gv 1) (aC (gv 2) (aC (gv 4) a0))))) (sq (zX 6 (zg zW (aC (yg (zR 1 [] (y4 (aC (gv 2) a0)) (bN 0) (xj (aC (cst (.int 0)) (aC (cst (.int 1)) a0))))) a0))) g)) (g:=s0)).trans ((zv (zD ((zb rfl).trans e))).trans (zv (zD none)))
   by_cases q:r2=0
   ·refine⟨jn n fi λ_=>0,jb n st su,jn n la lb,_,_,(pre _).trans ((uF (cond.trans (by rw[qG (by omega)]))).trans ((zD (d:=zq (n+more) s (jn n fi λ_=>0) (jb n st su) (jn n la lb)) ((zb (zj rfl (zj (x:=zq more s (λ_=>0) su lb) (VL rfl ((zd rfl rfl).trans jW) ((zd rfl rfl).trans wB)) rfl))).trans (ub (by omega) (by omega) hs))).trans rfl)),Kb.new (A.tb.add ⟨λ_ _=>Tb.zero 1 5,B1.st,B1.la⟩) (by omega),λws=>?_⟩;rw[VQ ws _ fi (λ_=>0) λx _=>rfl,UA ws _ λx _=>rfl];grind
   ·refine⟨jn n fi gi,jb n st su,jn n la λ_=>0,_,_,(pre _).trans ((jZ (cond.trans (by rw[qM (by omega)]))).trans ((zD (d:=zq (n+more) s (jn n fi gi) (jb n st su) (jn n la λ_=>0)) ((zb (zj rfl (zj (x:=zq more s gi su λ_=>0) (VL ((zd rfl rfl).trans jY) ((zd rfl rfl).trans jW) rfl) rfl))).trans (ub (by omega) (by omega) hs))).trans rfl)),Kb.new (A.tb.add ⟨B1.fi,B1.st,λ_ _=>Tb.zero 1 5⟩) (by omega),λws=>?_⟩;rw[VQ ws _ fi gi λx _=>rfl,zcd];grind
 have⟨fi1,st1,la1,c5,c6,e1,A1,w1⟩:=step1;obtain⟨ρ1,e2,c',fi2,st2,la2,o7,o8,o9,A2,w2,rfl⟩:=wX (n:=3) (g:=aC (cst (.int 3)) a0) (bd:=bN 7)
  (b:=sq (zX 1 (op2 xF (op2 xD (op2 yB (gv 1) (cst (.int 48271))) (cst (.int 31))) (cst (.int 2147483647))))
   (sq (zX 8 (op2 xF (op2 yS (gv 1) (cst (.int 5))) (zg maxD (aC (cst (.int 1)) (aC (gv 3) a0)))))
   (sq (zX 9 (op2 xF (op2 yS (gv 1) (cst (.int 35))) (zg maxD (aC (cst (.int 1)) (aC (gv 3) a0)))))
   (ifS (zG (op2 neD (gv 8) (gv 9))) (zX 0 (zg wD (aC (gv 0) (aC (gv 8) (aC (gv 9) (aC (zg xi (aC (op2 yS (gv 1) (cst (.int 300))) a0)) a0)))))) s0))))
  (ρ0:=[.pu (zq (n+more) s fi1 st1 la1),.pu (.int c),.pu (.int (more:Int)),.pu (.int ((n+more:Nat):Int)),.pu (.int (s:Int)),c5,c6,.no,.no,.no])
  (λi ρ=>∃(c':Int)(fi':Q1x)(st':Q3x)(la':Q1x)(o7 o8 o9:Sl),Kb (n+more) s fi' st' la' i/\(∀ws,wt (n+more) st' fi' la' ws=wt n st fi la ws)/\ρ=[.pu (zq (n+more) s fi' st' la'),.pu (.int c'),.pu (.int (more:Int)),.pu (.int ((n+more:Nat):Int)),.pu (.int (s:Int)),c5,c6,o7,o8,o9])
  rfl (by decide) ⟨c,fi1,st1,la1,.no,.no,.no,A1,w1,rfl⟩ λt ρ ht ⟨c',fi',st',la',o7,o8,o9,A',w',q⟩=>by
   subst q;obtain⟨u,hu,eu⟩:=Wb (i:=c'*48271+31) (m:=2147483647) (by decide);have mx:∀ρ:Ro,gv 3 ρ=some (.int ((n+more:Nat):Int))->zg maxD (aC (cst (.int 1)) (aC (gv 3) a0)) ρ=some (.int ((max 1 (n+more):Nat):Int)):=λρ h=>by
    refine(zb (zj rfl (zj h rfl))).trans ?_;show some (PyData.int (if ((n+more:Nat):Int)>1 then ((n+more:Nat):Int) else 1))=_
    congr 2
    split<;>omega
   obtain⟨i,hi,ei⟩:=Wb (i:=(u:Int).fdiv 5) (m:=max 1 (n+more)) (by omega);obtain⟨j,hj,ej⟩:=Wb (i:=(u:Int).fdiv 35) (m:=max 1 (n+more)) (by omega);obtain⟨qc,hqc,sqc⟩:=Ju ((u:Int).fdiv 300);have pre:∀g:Ro->Option Fl,(sq (zX 1 (op2 xF (op2 xD (op2 yB (gv 1) (cst (.int 48271))) (cst (.int 31))) (cst (.int 2147483647))))
     (sq (zX 8 (op2 xF (op2 yS (gv 1) (cst (.int 5))) (zg maxD (aC (cst (.int 1)) (aC (gv 3) a0)))))
     (sq (zX 9 (op2 xF (op2 yS (gv 1) (cst (.int 35))) (zg maxD (aC (cst (.int 1)) (aC (gv 3) a0))))) g)))
     [.pu (zq (n+more) s fi' st' la'),.pu (.int c'),.pu (.int (more:Int)),.pu (.int ((n+more:Nat):Int)),.pu (.int (s:Int)),c5,c6,.pu (.int (t:Int)),o8,o9]=g [.pu (zq (n+more) s fi' st' la'),.pu (.int (u:Int)),.pu (.int (more:Int)),.pu (.int ((n+more:Nat):Int)),.pu (.int (s:Int)),c5,c6,.pu (.int (t:Int)),.pu (.int (i:Int)),.pu (.int (j:Int))]:=λg=>by
    refine(zv (zD (d:=.int (u:Int)) ((zd ((zd ((zd rfl rfl).trans (JF (j:=48271) (by decide))) rfl).trans rfl) rfl).trans eu))).trans ?_;refine(zv (zD (d:=.int (i:Int)) ((zd ((zd rfl rfl).trans (xw (j:=5) (by decide) (by decide))) (mx _ rfl)).trans ei))).trans ?_;exact zv (zD (d:=.int (j:Int)) ((zd ((zd rfl rfl).trans (xw (j:=35) (by decide) (by decide))) (mx _ rfl)).trans ej))
   have cond:zG (op2 neD (gv 8) (gv 9)) [.pu (zq (n+more) s fi' st' la'),.pu (.int (u:Int)),.pu (.int (more:Int)),.pu (.int ((n+more:Nat):Int)),.pu (.int (s:Int)),c5,c6,.pu (.int (t:Int)),.pu (.int (i:Int)),.pu (.int (j:Int))]=some (!decide ((i:Int)=(j:Int))):=zE ((zd rfl rfl).trans (wI _ _));by_cases z:i=j
   ·exact⟨_,_,rfl,(pre _).trans ((jZ (cond.trans (qR (λb=>some (!b)) (qG (by omega))))).trans rfl),(u:Int),fi',st',la',.pu (.int (t:Int)),.pu (.int (i:Int)),.pu (.int (j:Int)),A'.up,w',rfl⟩
   ·have hi':i<n+more:=by omega
    have hj':j<n+more:=by omega
    refine⟨_,_,rfl,(pre _).trans ((uF (cond.trans (qR (λb=>some (!b)) (qM (by omega))))).trans (zD ((zb (zj rfl (zj rfl (zj rfl (zj ((zb (zj ((zd rfl rfl).trans (xw (j:=300) (by decide) (by decide))) rfl)).trans hqc) rfl))))).trans (zih (k:=13) (by omega) hs hi' hj' (by decide) (A'.mt.mach (by omega) (by omega)) sqc.sk)))),(u:Int),_,_,_,.pu (.int (t:Int)),.pu (.int (i:Int)),.pu (.int (j:Int)),A'.mix hi' hj' z sqc.tb,λws=>(zcF hi' hj' z ws fi').trans (w' ws),rfl⟩
 refine⟨fi2,st2,la2,zL rfl ?_,A2,w2⟩;refine(zv (zD (ln0 n fi st la _ rfl))).trans ((zv (zD (zbt (i:=0) rfl))).trans ((zv e1).trans ((zv (zD (d:=.int ((n+more:Nat):Int)) ((zd rfl rfl).trans (by rw[pZ];rfl)))).trans ((zv e2).trans (zA rfl)))))
end
end L2.Fu
namespace K11
open PySem PySem.Spec PyProof.Rows L2 L2.Fu
def zbe(CS:AdX):RFx:=(retS (op2 ixD (zg (xB CS) (aC (gv 0) (aC (gv 1) a0))) (cst (.int 0))))
def J7(CS:AdX):LPx:=fnF 2 2 (zbe CS)
def zk8(CS:AdX):RFx:=(sq (zX 1 (op2 xD (cst (.int 1)) (op2 xF (zg xb (aC (gv 0) (aC (cst (.int 0)) a0))) (cst (.int 3)))))
 (sq (zX 2 (zg xX (aC (zg xb (aC (gv 0) (aC (cst (.int 1)) a0))) (aC (op2 xF (op2 yS (zg xb (aC (gv 0) (aC (cst (.int 0)) a0))) (cst (.int 3))) (cst (.int 5))) (aC (gv 1) a0)))))
 (sq (zX 3 (zg Wu (aC (gv 2) (aC (zg xb (aC (gv 0) (aC (cst (.int 2)) a0))) (aC (op2 xF (op2 yS (zg xb (aC (gv 0) (aC (cst (.int 0)) a0))) (cst (.int 15))) (cst (.int 3))) a0)))))
 (sq (zX 4 (zg U3 (aC (zg xb (aC (gv 0) (aC (cst (.int 3)) a0))) (aC (gv 1) (aC (cst (.int 8)) a0)))))
 (sq (ifS (orT (zG (op2 neD (zg yT (aC (gv 2) (aC (gv 4) a0))) (zg yT (aC (gv 3) (aC (gv 4) a0))))) (zG (op2 WC (zg (J7 CS) (aC (gv 2) (aC (gv 3) a0))) (cst .none)))) (retS (cst (.bool false))) s0)
 (sq (zX 5 (zg (we CS) (aC (gv 2) (aC (gv 3) a0))))
 (sq (ifS (orT (WT (zG (op1 (zgE "list") (gv 5)))) (WT (zG (zg wK (aC (gv 2) (aC (gv 3) (aC (gv 5) a0))))))) (retS (cst (.bool false))) s0)
 (sq (ifS (orT (zG (op2 neD (zg (Jz CS) (aC (gv 2) a0)) (zg (Jz CS) (aC (gv 3) a0)))) (WT (zG (zg Yb (aC (zg (Jz CS) (aC (gv 2) a0)) a0))))) (retS (cst (.bool false))) s0)
 (sq (zX 6 (zg (xV CS) (aC (gv 3) a0)))
 (retS (zgQ (op2 eqD (zg yj (aC (op2 ixD (gv 6) (cst (.int 0))) a0)) (zg (Jz CS) (aC (gv 2) a0))) (op2 eqD (zg yT (aC (gv 6) (aC (gv 4) a0))) (zg yT (aC (gv 2) (aC (gv 4) a0)))))))))))))))
def zk6(CS:AdX):LPx:=fnF 7 1 (zk8 CS)
end K11
namespace K11
open PySem WS WD WD.DT L2 L2.Fu
def zjq{n m:Nat}{st su:Q3x}(g:Nat)(r q:Q1x)(x:Nat)(hx:x<n+m):led (n+m) (jn n r q) (jb n st su g) x=jn n (led n r (st g)) (led m q (su g)) x:=by
 show sumTo (n+m) (λa=>jn n r q a*jb n st su g a x)=_
 rw[jC];have e1:∀a,a<n->jn n r q a*jb n st su g a x=if x<n then r a*st g a x else 0:=λa ha=>by
  unfold jb jnM jn;rw[qj ha,qj ha];split
  ·rfl
  ·exact gA _
 have e2:∀a,a<m->jn n r q (n+a)*jb n st su g (n+a) x=if x<n then 0 else q a*su g a (x - n):=λa ha=>by
  rw[zcS];unfold jb jnM jn;rw[qo (show ¬n+a<n by omega),show n+a - n=a by omega];split
  ·exact gA _
  ·rfl
 rw[zf n e1,zf m e2];unfold jn;by_cases h:x<n
 ·simp only [qj h];rw[yx];show _=sumTo n λa=>r a*st g a x
  grind
 ·simp only [qo h];rw[yx];show _=sumTo m λa=>q a*su g a (x - n)
  grind
theorem zdI{n m:Nat}{st su:Q3x}:∀(u:LNt)(r q f:Q1x),(∀x,x<n+m->f x=jn n r q x)->∀x,x<n+m->zN (n+m) (jb n st su) f u x=jn n (zN n st r u) (zN m su q u) x
 |[],_,_,_,h,x,hx=>h x hx
 |g::u,r,q,f,h,x,hx=>by
  show zN (n+m) (jb n st su) (led (n+m) f (jb n st su g)) u x=jn n (zN n st (led n r (st g)) u) (zN m su (led m q (su g)) u) x
  refine zdI u _ _ _ (λy hy=>?_) x hx;rw[<-zjq g r q y hy];exact zf _ λa ha=>by rw[h a ha]
def zlm(CS:AdX)(ns:List Int):zk6 CS [.list (ns.map PyData.int)]=some (.bool true):=by
 have⟨c0,h0⟩:=wA ns 0;have⟨c1,h1⟩:=wA ns 1;have⟨c2,h2⟩:=wA ns 2;have⟨c3,h3⟩:=wA ns 3;obtain⟨r,hr,er⟩:=vp c0 (m:=3) (by decide);obtain⟨n,hn,en⟩:=vp (c0.fdiv 3) (m:=5) (by decide);obtain⟨more,hm,em⟩:=vp (c0.fdiv 15) (m:=3) (by decide);obtain⟨fi,st,la,e1,A⟩:=UC c1 (n:=n) (s:=1+r) (by omega) (by omega);obtain⟨gi,su,lb,e2,K,al⟩:=zg1 c2 (more:=more) (by omega) (by omega) A;obtain⟨ws,e3,hl,hw⟩:=zcO c3 (s:=1+r) (m:=8) (by omega) (by decide) (by omega);have A1:=A.mach;have A0:=Kb.new (la:=la) A.tb (show n<=8 by omega)
 have B1:Mach (n+more) (1+r) gi su lb 13:=K.mt.mach (by decide) (by decide);have w1:yT [zq n (1+r) fi st la,yt ws]=some (fr (wt n st fi la ws)):=Uw (by omega) A1.fi A1.st A1.la hw (by omega)
 have w2:yT [zq (n+more) (1+r) gi su lb,yt ws]=some (fr (wt n st fi la ws)):=by
  rw[<-al ws];exact Uw (by omega) B1.fi B1.st B1.la hw (by omega)
 obtain⟨R,⟨d,ec⟩,e4,e5⟩:=zed (CS:=CS) (a:=7) (b:=41) (β:=95) (A.tb.up (by decide) (by decide)) K.mt (by decide) (by decide) (by omega) (by omega) (by omega) (λu hg hu=>⟨6 ^ (4+u.length),yq _,λx hx=>by
  rw[zdI u fi gi (jn n fi gi) (λ_ _=>rfl) x hx];unfold jn;by_cases q:x<n
  ·rw[qj q];exact Tb.up (A0.row u hg x q) (by omega) (by omega)
  ·rw[qo q];exact Tb.up (K.row u hg (x - n) (by omega)) (by omega) (by omega)⟩) (by omega) (by decide) λw _=>(al w).symm
 have ep:J7 CS [zq n (1+r) fi st la,zq (n+more) (1+r) gi su lb]=some .none:=zL rfl (zA ((zd ((zb rfl).trans ec) rfl).trans rfl));obtain⟨ra,kA,⟨sta,fia,laa,_,wa⟩,mA⟩:=zkK (CS:=CS) (znd (n:=n) (s:=1+r) ⟨λi hi=>(A1.fi i hi).mono (by decide),λg a b hg ha hb=>(A1.st g a b hg ha hb).mono (by decide),λi hi=>(A1.la i hi).mono (by decide)⟩ (by omega) (by omega) (by omega));have sz:=zf7 (n:=n+more) (s:=1+r) (st:=su) (fi:=gi) (la:=lb) (k:=7) (κ:=41) (K:=9) (β:=63) (N:=5) (ε:=333) (ε2:=1611) (by omega) (by decide) (by omega) (by omega) K.mt.st (λu hg hu x hx=>Tb.up (K.row u hg x hx) (by omega) (by omega)) (λu hg hu x hx=>Tb.up (K.col u hg x hx) (by omega) (by omega)) (by decide) (by decide) (by decide) (by decide) (by decide) (by decide) (by decide)
 have n3:n+more<=2 ^ 3:=by omega
 obtain⟨rb,fib,stb,lab,eL,kB,wL,wb,mB⟩:=Ys (CS:=CS) (ws:=ws) (R0:=6 ^ 12) (N0:=2 ^ 87) (a:=1710) (b:=2000) (c:=3700) sz (λu hg hu x hx=>Tb.up (K.row u hg x hx) (by omega) (by omega)) (yq 12) hw (λD1 D2 p1 q1 p2 q2=>by
  have lt:∀{x y z:Nat},x<=2 ^ y->y<z->x<2 ^ z:=λh h'=>qI h (kS (by decide) h')
  have a1:D2*6 ^ 12<=2 ^ 1647:=xy q2 (zay 12) (by decide);have a2:(n+more)*(2 ^ 1611*2 ^ 87)<=2 ^ 1701:=xy n3 (xy (qf _) (qf _) (qf _)) (by decide)
  have a3:D2*(D1*6 ^ 7)<=2 ^ 1965:=xy q2 (xy q1 (zay 7) (qf _)) (by decide);have a4:(n+more)*(2 ^ 1611*((n+more)*(2 ^ 333*2 ^ 41)))<=2 ^ 1991:=xy n3 (xy (qf _) (xy n3 (xy (qf _) (qf _) (qf _)) (qf _)) (qf _)) (by decide)
  have a5:D1*6 ^ 9<=2 ^ 360:=xy q1 (zay 9) (by decide);have a6:(n+more)*(2 ^ 333*2 ^ 63)<=2 ^ 399:=xy n3 (xy (qf _) (qf _) (qf _)) (by decide)
  have p3:=kH p2 (yq 12);exact⟨⟨⟨lt a1 (by decide),lt a2 (by decide)⟩,⟨lt a3 (by decide),lt a4 (by decide)⟩,⟨p3,kH p2 (kH p1 (yq 7))⟩,by decide,lt (xy a1 a3 (qf _)) (by decide),lt (xy n3 (xy a2 a4 (qf _)) (qf _)) (by decide),by decide⟩,
   ⟨⟨lt a1 (by decide),lt a2 (by decide)⟩,⟨lt a5 (by decide),lt a6 (by decide)⟩,⟨p3,kH p1 (yq 9)⟩,by decide,lt (xy a1 a5 (qf _)) (by decide),lt (xy n3 (xy a2 a6 (qf _)) (qf _)) (by decide),by decide⟩⟩)
 rw[al ws] at wL;have hrr:ra=rb:=Nat.le_antisymm (mA (n':=rb) (su:=stb) (gi:=fib) (lb:=lab) λw hw=>(wb w hw).trans (al w)) (mB (n':=ra) (su:=sta) (gi:=fia) (lb:=laa) λw hw=>(wa w hw).trans (al w).symm);subst hrr;have es:(1:Int)+(r:Int)=((1+r:Nat):Int):=by omega
 refine zL rfl ?_;refine(zv (zD (d:=.int ((1+r:Nat):Int)) ?_)).trans ?_
 ·refine(zd rfl ((zd ((zb rfl).trans h0) rfl).trans (jh (by decide)))).trans ?_;rw[<-es,<-er];rfl
 refine(zv (zD (d:=zq n (1+r) fi st la) ?_)).trans ?_
 ·refine(zb (zj ((zb rfl).trans h1) (zj ((zd ((zd ((zb rfl).trans h0) rfl).trans (xw (j:=3) (by decide) (by decide))) rfl).trans (jh (by decide))) (zj rfl rfl)))).trans ?_;rw[<-e1,<-en];rfl
 refine(zv (zD (d:=zq (n+more) (1+r) gi su lb) ?_)).trans ?_
 ·refine(zb (zj rfl (zj ((zb rfl).trans h2) (zj ((zd ((zd ((zb rfl).trans h0) rfl).trans (xw (j:=15) (by decide) (by decide))) rfl).trans (jh (by decide))) rfl)))).trans ?_;rw[<-e2,<-em];rfl
 refine(zv (zD ((zb (zj ((zb rfl).trans h3) rfl)).trans e3))).trans ?_;refine(zv ((jZ (zi2 (b:=false) (zE ((zd ((zb rfl).trans w1) ((zb rfl).trans w2)).trans ((zlT _ _).trans (by rw[qG rfl];rfl)))) (zE ((zd ((zb rfl).trans ep) rfl).trans rfl)))).trans rfl)).trans ?_;refine(zv (zD ((zb rfl).trans e4))).trans ?_;refine(zv ((jZ (zi2 (b:=false) (V0 (b:=true) (zE rfl)) (V0 (b:=true) (zE ((zb rfl).trans e5))))).trans rfl)).trans ?_;refine(zv ((jZ (zi2 (b:=false) (zE ((zd ((zb rfl).trans kA) ((zb rfl).trans kB)).trans ((wI _ _).trans (by rw[qG rfl];rfl)))) (V0 (b:=true) (zE ((zb (zj ((zb rfl).trans kA) rfl)).trans rfl))))).trans rfl)).trans ?_;refine(zv (zD ((zb rfl).trans eL))).trans (zA ?_);refine zl4 ((zd ((zb (zj ((zd rfl rfl).trans jY) rfl)).trans (x9 _ _)) ((zb rfl).trans kA)).trans ((J5 _ _).trans (by rw[qG rfl]))) ((zd ((zb rfl).trans wL) ((zb rfl).trans w1)).trans ?_);rw[zma,qG rfl]
end K11
namespace K11
open PySem PySem.Spec PyProof.Rows L2 L2.Fu
def top(i:Nat):Stmt:=PySem.Challenge.pw_wordscales_k11_whole_other_numbers_same.main.body.getD i (.Pass ⟨0,0,0,0⟩)
abbrev blts:List Str:=["len","abs","isinstance","int","bool","tuple","list","range","zip","sum","max","enumerate","sorted"]
abbrev vc:Stmt:=top 4
def x6:zr ["one","other","rest"] ["one","other"] (zc vc):=scx
abbrev ZV:Stmt:=top 5
def WN:zr ["top","bottom","common"] ["top","bottom"] (zc ZV):=scx
abbrev zca:Stmt:=top 6
def zhg:zr ["one","other"] ["one","other"] (zc zca):=scx
abbrev vB:Stmt:=top 7
def jr:zr ["fractions","bottom","fraction"] ["fractions"] (zc vB):=scx
abbrev wH:Stmt:=top 8
def zbv:zr ["fractions","bottom"] ["fractions","bottom"] (zc wH):=scx
abbrev jq:Stmt:=top 9
def x8:zr ["tops","common","top"] ["tops"] (zc jq):=scx
abbrev jk:Stmt:=top 10
def VY:zr ["ones","others"] ["ones","others"] (zc jk):=scx
abbrev UE:Stmt:=top 11
def wy:zr ["ones","others","ones_bottom","others_bottom","top"] ["ones","others"] (zc UE):=scx
abbrev Vm:Stmt:=top 16
def zgU:zr ["tops","columns"] ["tops","columns"] (zc Vm):=scx
abbrev vG:Stmt:=top 17
def jB:zr ["step","numbers","row","bottom","columns"] ["step"] (zc vG):=scx
abbrev Vp:Stmt:=top 18
def zga:zr ["step","room"] ["step","room"] (zc Vp):=scx
abbrev VB:Stmt:=top 20
def zaN:zr ["one","other","steps"] ["one","other"] (zc VB):=scx
abbrev VD:Stmt:=top 21
def zgz:zr ["machine"] ["machine"] (zc VD):=scx
abbrev vE:Stmt:=top 22
def j7:zr ["one","other","one_signs","other_signs"] ["one","other"] (zc vE):=scx
abbrev Wr:Stmt:=top 23
def ze0:zr ["rooms"] ["rooms"] (zc Wr):=scx
abbrev vI:Stmt:=top 24
def zal:zr ["row","fraction"] ["row","fraction"] (zc vI):=scx
abbrev uL:Stmt:=top 25
def Uq:zr ["one_step","other_step","crossings"] ["one_step","other_step"] (zc uL):=scx
abbrev jv:Stmt:=top 26
def vY:zr ["one_step","crossings","other_step","one_rows","other_rows"] ["one_step","crossings","other_step"] (zc jv):=scx
abbrev vm:Stmt:=top 27
def ZY:zr ["step"] ["step"] (zc vm):=scx
abbrev JN:Stmt:=top 29
def zbq:zr ["row"] ["row"] (zc JN):=scx
abbrev U9:Stmt:=top 30
def Yk:zr ["place","places","row"] ["place","places"] (zc U9):=scx
abbrev Jc:Stmt:=top 31
def zcU:zr ["check","number","gone","pivot","divisor"] ["check","number","gone","pivot","divisor"] (zc Jc):=scx
abbrev uc:Stmt:=top 34
def Y5:zr ["machine","reach"] ["machine"] (zc uc):=scx
abbrev U1:Stmt:=top 36
def zd0:zr ["machine"] ["machine"] (zc U1):=scx
abbrev zeQ:Stmt:=top 37
def zjS:zr ["machine"] ["machine"] (zc zeQ):=scx
abbrev va:Stmt:=top 38
def jM:zr ["machine","span","places","shares","first","steps","last"] ["machine"] (zc va):=scx
abbrev jz:Stmt:=top 39
def Jt:zr ["step","places","shares","columns"] ["step","places","shares"] (zc jz):=scx
abbrev Wo:Stmt:=top 42
def zeE:zr ["one","other"] ["one","other"] (zc Wo):=scx
abbrev uT:Stmt:=top 43
def W4:zr ["one","other","told"] ["one","other"] (zc uT):=scx
abbrev uW:Stmt:=top 44
def zas:zr ["one","other"] ["one","other"] (zc uW):=scx
abbrev U7:Stmt:=top 45
def jR:zr ["one","other","machine","last","reach","row"] ["one","other"] (zc U7):=scx
abbrev wZ:Stmt:=top 47
def YY:zr ["script","k"] ["script","k"] (zc wZ):=scx
abbrev JE:Stmt:=top 48
def zbT:zr ["found"] ["found"] (zc JE):=scx
abbrev Wi:Stmt:=top 49
def j9:zr ["top","bottom","a","b","rest"] ["top","bottom"] (zc Wi):=scx
abbrev UW:Stmt:=top 50
def zc5:zr ["one","other"] ["one","other"] (zc UW):=scx
abbrev JS:Stmt:=top 51
def zbA:zr ["one","other"] ["one","other"] (zc JS):=scx
abbrev Wv:Stmt:=top 52
def Je:zr ["one","other","total","k"] ["one","other"] (zc Wv):=scx
abbrev wc:Stmt:=top 53
def Yr:zr ["cell"] ["cell"] (zc wc):=scx
abbrev wU:Stmt:=top 54
def yF:zr ["cell","rooms","signs","out","k","steps","sign","rows","a","at"] ["cell","rooms","signs"] (zc wU):=scx
abbrev UJ:Stmt:=top 55
def wF:zr ["cell","signs","most","word","k"] ["cell","signs","most"] (zc UJ):=scx
abbrev J0:Stmt:=top 56
def U6:zr ["row","step","out","b"] ["row","step"] (zc J0):=scx
abbrev WX:Stmt:=top 57
def u6:zr ["machine","word","row","sign"] ["machine","word"] (zc WX):=scx
abbrev u9:Stmt:=top 58
def zaj:zr ["machine","word"] ["machine","word"] (zc u9):=scx
abbrev xT:Stmt:=top 59
def xZ:zr ["one","other","left","right","steps","k","rows"] ["one","other"] (zc xT):=scx
abbrev vg:Stmt:=top 60
def wu:zr ["row","i","j","c","out"] ["row","i","j","c"] (zc vg):=scx
abbrev jO:Stmt:=top 61
def xO:zr ["machine","i","j","c","less","first","last","steps","step","rows"] ["machine","i","j","c"] (zc jO):=scx
abbrev J6:Stmt:=top 62
def yP:zr ["machine","cell","more","rooms","signs","idle","none","k","i","j"] ["machine","cell","more"] (zc J6):=scx
abbrev vd:Stmt:=top 63
def xa:zr ["rows","left","done","k","at","base","r","part","less"] ["rows"] (zc vd):=scx
abbrev UQ:Stmt:=top 64
def zcN:zr ["part"] ["part"] (zc UQ):=scx
abbrev vj:Stmt:=top 65
def ZE:zr ["rows","row"] ["rows","row"] (zc vj):=scx
abbrev uN:Stmt:=top 66
def Yp:zr ["one","other","less"] ["one","other"] (zc uN):=scx
abbrev wo:Stmt:=top 67
def j3:zr ["one","other","rows","both","known","row","step"] ["one","other","rows"] (zc wo):=scx
abbrev zab:Stmt:=top 68
def U0:zr ["script","signs","one","other","word","rows","less"] ["script"] (zc zab):=scx
abbrev W0:Stmt:=inClass (top 32) 3
def Jk:zr ["self","row","sums","unmet","turn","pivot","gone","left"] ["self","row"] (zc W0):=scx
abbrev zeY:Stmt:=inClass (top 32) 1
def zko:zr ["self"] ["self"] (zc zeY):=scx
abbrev Zf:Stmt:=inClass (top 33) 1
def Wl:zr ["self","word","row"] ["self"] (zc Zf):=scx
abbrev ziO:Stmt:=inClass (top 33) 2
def zmc:zr ["self","word","row"] ["self","word","row"] (zc ziO):=scx
abbrev zeX:Stmt:=inClass (top 33) 3
def zfv:zr ["self","word","row","sign"] ["self","word","row"] (zc zeX):=scx
abbrev YF:Stmt:=inClass (top 33) 0
def zid:zr ["self","machine"] ["self","machine"] (zc YF):=scx
abbrev YA:Stmt:=inClass (top 32) 0
def zhB:zr ["self","places"] ["self","places"] (zc YA):=scx
abbrev WB:Stmt:=inClass (top 32) 4
def Jg:zr ["self","place","row","spot","check"] ["self","place"] (zc WB):=scx
abbrev DX(k:Nat)(x:Str)(ps:List Str)(f:List PyData->Option PyData)(P:Program)(w:World)(K:PySem.W.Frag)(mg:Str->Option Value)(base:Heap):Prop:=yA P w K mg base k x ps f
abbrev xI:=DX 1 "whole_pair_sum" ["ones","others"] yd
abbrev V6:=DX 5 "difference" ["one","other"] vN
abbrev Wf:=DX 3 "whole_step" ["step"] vH
abbrev Vn:=DX 2 "lowest" ["top","bottom"] uz
abbrev Um:=DX 1 "_law_cell_at" ["script","k"] xb
abbrev JY:=DX 1 "_law_low" ["top","bottom"] ux
abbrev vU:=DX 2 "_law_fraction" ["cell"] xi
abbrev w9:=DX 3 "_law_machine" ["cell","rooms","signs"] xX
abbrev u0:=DX 1 "_law_beside" ["one","other"] xU
abbrev vx:=DX 2 "_law_times" ["one","other"] yz
abbrev vV:=DX 2 "_law_plus" ["one","other"] xf
abbrev Yc:=DX 4 "_law_mixed" ["machine","i","j","c"] wD
abbrev za0:=DX 5 "_law_kin" ["machine","cell","more"] Wu
abbrev zag:=DX 1 "_law_word" ["cell","signs","most"] U3
abbrev J2:=DX 3 "_law_dot" ["one","other"] xp
abbrev V1:=DX 6 "_law_weight" ["machine","word"] yT
abbrev Jm:=DX 1 "refuse_unlike" ["one","other"] vD
abbrev jj:=DX 1 "common_divisor" ["one","other"] yM
abbrev zfR:=DX 3 "times" ["one","other"] zbH
abbrev VZ:=DX 4 "scaled_row" ["row","fraction"] Jd
abbrev WQ:=DX 1 "noughts" ["rooms"] uj
abbrev UB:=DX 2 "joined_step" ["one_step","crossings","other_step"] ud
abbrev VO:=DX 3 "added_step" ["one_step","other_step"] uY
abbrev zcR:=DX 4 "beside" ["one","other"] Zg
abbrev jG:=DX 2 "shared_bottom" ["fractions"] yk
abbrev VM:=DX 1 "column" ["step","room"] Jw
abbrev YL:=DX 2 "_law_both" ["one","other"] uU
abbrev Zb:=DX 1 "_law_over" ["part"] vX
abbrev Zv:=DX 3 "_law_rank" ["rows"] uV
abbrev Uy:=DX 4 "_law_in_span" ["rows","row"] yU
abbrev W3:=DX 5 "_law_shown" ["one","other","rows"] wK
abbrev UN:=DX 3 "pair_sum" ["ones","others"] vW
abbrev Ut:=DX 4 "shared_step" ["step","places","shares"] jw
abbrev Uo:=DX 2 "turned_step" ["step"] ua
abbrev zdP:=DX 3 "turned" ["machine"] Vy
abbrev Yd:=DX 1 "_law_whole" ["found"] Yb
abbrev NBP(P:Program)(w:World)(base:Heap)(mg:Str->Option Value):Prop:=NoB mg blts
section
variable{P:Program}{w:World}{K:FRx}{mg:Str->Option Value}{base:Heap}{CS CR:AdX}
theorem ue{f:Str×NameKind->Str×NameKind}(h1:∀p,(f p).1=p.1)(h2:∀p,(p.2=.cell\/p.2=.free)->((f p).2=.cell\/(f p).2=.free)):∀{names:List (Str×NameKind)} {x:Str},(names.lookup x=some .cell\/names.lookup x=some .free)->
  ((names.map f).lookup x=some .cell\/(names.map f).lookup x=some .free)
 |[],_,h=>by simp at h
 |p::r,x,h=>by
  have ih:=@ue f h1 h2 r x;have e:(f p)=(p.1,(f p).2):=Prod.ext (h1 p) rfl
  rw[gI,e];cases hb:x==p.1 with
  |false=>
   have h':r.lookup x=some .cell\/r.lookup x=some .free:=by simpa only [List.lookup,hb] using h
   simpa only [List.lookup,hb] using ih h'
  |true=>
   have h':some p.2=some .cell\/some p.2=some .free:=by simpa only [List.lookup,hb] using h
   have h3:=h2 p (h'.imp kb kb);simp only [List.lookup,hb];exact h3.imp (qR some) (qR some)
def zdW{X:Cx}{scope sc:Scope}{N:LSr}{cl C ex s H}(kind:scope.kind=.function)(nocell:∀y∈scope.names,y.2≠ .cell)(loc:∀y∈scope.names,y.2=.local->scope.names.lookup y.1=some .local)(free:∀y∈scope.names,y.2=.free->sc.names.lookup y.1=some .cell\/sc.names.lookup y.1=some .free):yc (z9 X N sc cl C ex s H) scope:=Va (sc:=PySem.relabel sc X.env) rfl kind nocell loc λy hy hf=>
 ue (λp=>by dsimp only;split<;>rfl) (λp hp=>by dsimp only;split;exact Or.inl rfl;exact hp) (free y hy hf)
def zcs{X:Cx}{x0:Str}{scope sc:Scope}{N:LSr}{cl C ex s H}(kind:scope.kind=.function)(nocell:∀y∈scope.names,y.2≠ .cell)(loc:∀y∈scope.names,y.2=.local->scope.names.lookup y.1=some .local)(free:∀y∈scope.names,y.2=.free->sc.names.lookup y.1=some .cell\/sc.names.lookup y.1=some .free):yc (xQ X (some x0) N sc cl C ex s H) scope:=Va (sc:=PySem.relabel sc X.env) rfl kind nocell loc λy hy hf=>
 ue (λp=>by dsimp only;split<;>rfl) (λp hp=>by dsimp only;split;exact Or.inl rfl;exact hp) (free y hy hf)
def zmu(h:Yy K mg CS "Span" "__init__" "Span.__init__" YA)(NB:NBP P w base mg)(cl:Cls K CS)(n1:zI K CS "free")(n2:zI K CS "taken")(n3:zI K CS "checks")(n4:zI K CS "pivot")(cG:x3 P w K mg base 1 "unit_row" ["place","places"] vT):Ini P w K mg base 3 CS "Span" ["self","places"] V8:=(Ini.mk (N:=["self","places"]) (m:=1) h zhB (um2 λ_ _ _ _ _ _ _ _=>rfl) rfl (by decide) (λf cdv A outer s H E hr=>
  (zK (u4 cl n1 (FL.gl (zlo rfl rfl (nbg NB) rfl (nbg NB) (za (ze 1) zh))))
  (zK (u4 cl n2 (FL.gl (xR zh)))
  (zK (u4 cl n3 (FL.gl (yf (Ts:=["place"]) (F:=[1]) rfl (FI.fib (yG rfl (nbg NB) (za (ze 1) zh))) (csx (sc:=zc YA)) (xE rfl rfl xG) (fgc 0) (λ_ _ _ _ _=>(FL.fe (jD cG hr rfl (za (ze 0) (za (ze 1) zh))))))))
  (xl (zbB cl n4 (FE.ge ye))))))))
def zmz(h:vL K CS "take" "Span.take" W0)(NB:NBP P w base mg)(cl:Cls K CS)(nF:zI K CS "free")(nT:zI K CS "taken")(nC:zI K CS "checks")(nP:zI K CS "pivot")(b8:xI P w K mg base)(cH:x3 P w K mg base 1 "narrowed" ["check","number","gone","pivot","divisor"] Jj):Met P w K mg base 4 CS "take" ["self","row"] UH:=(Met.mk (N:=["self","row","sums","unmet","turn","pivot","gone","left"]) (m:=1) h Jk (um2 λ_ _ _ _ _ _ _ _=>rfl) rfl (by decide) (λf cdv A outer s H E hr=>
  (zK (zjf 2 (Ts:=["check"]) (F:=[1]) Jk.nd rfl (zkj (vf cl nC)) (csx (sc:=zc W0)) (xE rfl rfl xG) (fgc 0) (λ_ _ _ _ _=>(zo b8 hr rfl (za (ze 0) (za (ze 1) zh)))))
  (zK (zgF 3 (Ts:=["turn","number"]) (F:=[]) Jk.nd rfl (FIB.gib (zhd false rfl (nbg NB) (zk (yl 2) zt))) (csx (sc:=zc W0)) xG (λ_ _ _ _ _=>(uM rfl (zY 0 (show(["turn","number"]:LSr).Nodup by decide+kernel)) (zY 1 (show(["turn","number"]:LSr).Nodup by decide+kernel)))) (λ_ _ _ _ _=>(yQ (wk hr.units) JR (qv 1) qi (nomark _))) (λ_ _ _ _ _=>(ze 0)))
  (zK (zhY (FT.gt (yQ (wQ hr.units) Uu (yl 3) (FL.fb (xR zh)) (nomark _))) (xl (wV (FE.ge V4))) Vv)
  (zK (UZ 4 Jk.nd (FE.ge (zu (yl 3) qi (λ_ _=>rfl))))
  (zK (zjV 5 2 Jk.nd (FE.ge (ze 4)))
  (zK (zjI 6 Jk.nd cl nC (FE.ge (ze 4)))
  (zK (zh1 7 0 (Ts:=["check","number"]) (F:=[0,5,6]) Jk.nd rfl (zjd false false rfl (nbg NB) (uE (vf cl nC) (uE (FB.gb (yl 2)) Wc))) (csx (sc:=zc W0)) (xE rfl rfl (xE rfl rfl (xE rfl rfl xG))) rfl (λ_ _ _ _ _=>(uM rfl (zY 0 (show(["check","number","self","pivot","gone"]:LSr).Nodup by decide+kernel)) (zY 1 (show(["check","number","self","pivot","gone"]:LSr).Nodup by decide+kernel)))) (λ_ _ _ _ _=>(zkz cH.df hr rfl (uK (FE.gj (ze 0)) (uK (FE.gj (ze 1)) (uK (FE.gj (ze 4)) (uK (FE.gj (ze 3)) (uK (zl2 (j:=2) cl nP) zfx))))))))
  (zK (zj8 7 cl nC)
  (zK (zbB cl nP (FE.ge (ze 5)))
  (zK (zlz cl nT nF (FE.ge (ze 4)) (by decide+kernel))
  (xl (wV (FE.ge V4)))))))))))))))
def zl1(h:vL K CS "full" "Span.full" zeY)(cl:Cls K CS)(nF:zI K CS "free"):Met P w K mg base 1 CS "full" ["self"] UX:=(Met.mk (N:=["self"]) (m:=0) h zko (um1 λ_ _ _ _ _ _ _=>rfl) rfl (by decide) (λf cdv A outer s H E hr=>
  (xl (wV (zlu (wQ hr.units) Uu (vf cl nF) (FB.gb (FL.fb (xR zh))) (nomark _))))))
def zmO(h:vL K CR "row_led_on" "Reach.row_led_on" ziO)(cl:Cls K CR)(nS:zI K CR "steps")(cI:x3 P w K mg base 2 "without_common" ["tops"] xc)(cJ:x3 P w K mg base 2 "led_on" ["tops","columns"] Wd):Met P w K mg base 4 CR "row_led_on" ["self","word","row"] UL:=(Met.mk (N:=["self","word","row"]) (m:=2) h zmc (um3 λ_ _ _ _ _ _ _ _ _=>rfl) rfl (by decide) (λf cdv A outer s H E hr=>
  (zK (zhY (FT.gt (yQ (wQ hr.units) Uu (qv 1) (FE.fb (yC zh)) (nomark _))) (xl (wV (FE.ge (ze 2)))) Vv)
  (xl (wV (zb1 cI.df hr rfl (jl (zb1 cJ.df hr rfl (jl (FE.ge (ze 2)) (jl (zbj (vf cl nS) (GE.gb (FE.ge (zu (qv 1) (FE.fb (YT ye)) (λ_ _=>rfl)))) (λ_ _=>rfl)) Jv))) Jv)))))))
def ziC(h:vL K CR "onward" "Reach.onward" Zf)(NB:NBP P w base mg)(cl:Cls K CR)(cs:Cls K CS)(nA:zI K CR "asked")(nW:zI K CR "waiting")(nS:zI K CR "span")(mF:Met P w K mg base 1 CS "full" ["self"] UX)(mT:Met P w K mg base 4 CS "take" ["self","row"] UH)(mK:Met P w K mg base 1 CR "keep" ["self","word","row"] WA)(mL:Met P w K mg base 4 CR "row_led_on" ["self","word","row"] UL):Met P w K mg base 5 CR "onward" ["self"] (xu CS):=(Met.mk (N:=["self","word","row"]) (m:=0) h Wl (um1 λ_ _ _ _ _ _ _=>rfl) rfl (by decide) (λf cdv A outer s H E hr=>
  (zK (Zy (λ_ _=>1000000) qY (GWM.gtm (zkk (GT.gtm (zmD zcy uZ (GE.gb (Zh cl nA)) (GE.gb (Vi zy xm rfl (nbg NB) yD (uE (vf cl nW) Wc))) (nomark _))) (ziq (zjx (zco (zhH cl nS cs mF hr))))))
   (zK (UZ 1 Wl.nd (zbj (GE.gb (zbj (vf cl nW) (GE.gb (Zh cl nA)) (λ_ _=>rfl))) (FB.gb qi) (λ_ _=>rfl)))
   (zK (zck 2 Wl.nd (zfw cl mL hr (jl (FE.ge (ze 1)) (jl (zbj (GE.gb (zbj (vf cl nW) (GE.gb (Zh cl nA)) (λ_ _=>rfl))) (FB.gb qi) (λ_ _=>rfl)) Jv))))
   (zK (zbB cl nA (zk2 jJ jI (GE.gb (Zh cl nA)) (FB.gb qi)))
   (xl (zhU (zco (zjh cl nS cs mT hr (jl (FE.ge (ze 2)) Jv))) (zK (zm9 (zfw cl mK hr (jl (FE.ge (ze 1)) (jl (FE.ge (ze 2)) Jv)))) (xl (wV (FE.ge (ze 2))))) Vv))))))
  (xl (wV (FE.ge Wj))))))
def zmn(h:vL K CR "keep" "Reach.keep" zeX)(NB:NBP P w base mg)(cl:Cls K CR)(nWd:zI K CR "words")(nR:zI K CR "rows")(nS:zI K CR "steps")(nW:zI K CR "waiting"):Met P w K mg base 1 CR "keep" ["self","word","row"] WA:=(Met.mk (N:=["self","word","row","sign"]) (m:=2) h zfv (um3 λ_ _ _ _ _ _ _ _ _=>rfl) rfl (by decide) (λf cdv A outer s H E hr=>
  (zK (zh3 cl nWd (FE.ge (ze 1)))
  (zK (zh3 cl nR (FE.ge (ze 2)))
  (xl (zli qY rfl (zeZ rfl (nbg NB) (jl (Vi zy xm rfl (nbg NB) yD (uE (vf cl nS) Wc)) Jv)) (zY 3 zfv.nd)
   (xl (zh3 cl nW (FE.ge (yC (za (zC j4 vK (qv 1) (FE.fb (yC (za (ze 3) zh)))) (za (ze 2) zh))))))))))))
def zds(h:HasDef K mg "compared" U7)(b9:V6 P w K mg base)(bY:x3 P w K mg base 3 "whole_row" ["row"] xM)(b8:xI P w K mg base)(iR:Ini P w K mg base 5 CR "Reach" ["self","machine"] (vM CS))(mO:Met P w K mg base 5 CR "onward" ["self"] (xu CS))(cl:Cls K CR)(nWd:zI K CR "words")(nR:zI K CR "rows"):yA P w K mg base 8 "compared" ["one","other"] (xB CS):=(yA.mk (N:=["one","other","machine","last","reach","row"]) (m:=2) h jR (um2 λ_ _ _ _ _ _ _ _=>rfl) rfl (λf cdv A outer s H E hr=>
  (zi (zJ 2 jR.nd (zo b9 hr rfl (za (ze 0) (za (ze 1) zh))))
  (zi (zJ 3 jR.nd (zo bY.df hr rfl (za (zu (qv 2) qi (λ_ _=>rfl)) zh)))
  (zfW 4 jR.nd (zbn iR hr rfl (za (ze 2) zh))
  (zK (zck 5 jR.nd (VV cl mO hr))
  (zK (Zy (λ_ _=>1000) qY (GT.gtm (FT.gt (yQ YG Vw (qv 5) (FE.fb Wj) (nomark _))))
   (zK (zhY (FT.gt (yQ (wk hr.units) JR (FE.fb (zo b8 hr rfl (za (ze 5) (za (ze 3) zh)))) qi (nomark _))) (xl (wV (zlG (jl (zbj (vf cl nWd) (FB.gb (FE.fb (YT ye))) (λ_ _=>rfl)) (jl (GL.ge (ziw (vf cl nR) zfE (J1 (YT ye)))) Jv))))) Vv)
   (xl (zck 5 jR.nd (VV cl mO hr)))))
  (xl (zkA (zmE (zcT (FE.gz Wj) (zcT (zlU cl nR) zkw))))))))))))
def zkh(h:Yy K mg CR "Reach" "__init__" "Reach.__init__" YF)(NB:NBP P w base mg)(cl:Cls K CR)(n1:zI K CR "steps")(n2:zI K CR "span")(n3:zI K CR "words")(n4:zI K CR "rows")(n5:zI K CR "waiting")(n6:zI K CR "asked")(cK:Wf P w K mg base)(cM:x3 P w K mg base 3 "whole_row" ["row"] xM)(iS:Ini P w K mg base 3 CS "Span" ["self","places"] V8):Ini P w K mg base 5 CR "Reach" ["self","machine"] (vM CS):=(Ini.mk (N:=["self","machine"]) (m:=1) h zid (um2 λ_ _ _ _ _ _ _ _=>rfl) rfl (by decide) (λf cdv A outer s H E hr=>
  (zK (u4 cl n1 (FL.gl (yf (Ts:=["step"]) (F:=[]) rfl (yn (FE.fb (zu (qv 1) qi (λ_ _=>rfl)))) (csx (sc:=zc YF)) xG (fgc 0) (λ_ _ _ _ _=>(zu (FE.fb (zo cK hr rfl (za (ze 0) zh))) qi (λ_ _=>rfl))))))
  (zK (zkr cl n2 (FN.gn (zbn iS hr rfl (za (zT zy xm rfl (nbg NB) yD (zk (FE.fb (zu (qv 1) qi (λ_ _=>rfl))) zt)) zh))))
  (zK (u4 cl n3 (FL.gl (xR zh)))
  (zK (u4 cl n4 (FL.gl (xR zh)))
  (zK (u4 cl n5 (FL.gl (xR (za (yC (za (yC zh) (za (zo cM.df hr rfl (za (zu (qv 1) qi (λ_ _=>rfl)) zh)) zh))) zh))))
  (xl (zbB cl n6 (FE.ge ye))))))))))
def zgp(h:vL K CS "settled_row" "Span.settled_row" WB)(NB:NBP P w base mg)(cl:Cls K CS)(nF:zI K CS "free")(nT:zI K CS "taken")(nC:zI K CS "checks")(nP:zI K CS "pivot")(c_NOUGHT:GC K mg "NOUGHT" (.tuple [.int 0,.int 1]))(c_ONE:GC K mg "ONE" (.tuple [.int 1,.int 1]))(bE:Vn P w K mg base):zgq P w K mg base 4 CS "settled_row" ["self","place"] uy:=zgq.mk (k:=3) (N:=["self","place","row","spot","check"]) (m:=1) (b:=zaI) h Jg (um2 λ_ _ _ _ _ _ _ _=>rfl) rfl (by decide) (λf cdv A outer s H E hr=>
  (ZF (zkc 2 Jg.nd (zln (FL.fk (xR (za (YC c_NOUGHT rfl) zh))) (zk2 jJ jI (GE.gb (Vi zy xm rfl (nbg NB) yD (uE (vf cl nF) Wc))) (GE.gb (Vi zy xm rfl (nbg NB) yD (uE (vf cl nT) Wc))))))
  (ZF (zfF 2 (FE.ge (ze 1)) (FE.ge (YC c_ONE rfl)))
  (ZF (zlH qY rfl (zkv cl nF nC rfl (nbg NB)) (uM rfl (zY 3 Jg.nd) (zY 4 Jg.nd)) (zfp (zfF 2 (FE.ge (ze 3)) (zb1 bE hr rfl (jl (FE.ge (YT (zu (qv 4) (qv 1) (λ_ _=>rfl)))) (jl (Zh cl nP) Jv))))))
  (zfp (zkC 2))))))
def Z9(h:HasDef K mg "whole_reach" uc)(iR:Ini P w K mg base 5 CR "Reach" ["self","machine"] (vM CS))(mO:Met P w K mg base 5 CR "onward" ["self"] (xu CS))(cl:Cls K CR):zgt P w K mg base 8 CR "whole_reach" ["machine"] (xY CS):=zgt.mk (N:=["machine","reach"]) (m:=1) (i:=1) h Y5 (um1 λ_ _ _ _ _ _ _=>rfl) rfl rfl rfl (by first |exact Or.inl rfl|exact Or.inr rfl) (λf cdv A outer s H E hr=>
  ⟨zbn iR hr rfl (za (ze 0) zh),zgj (Zy (λ_ _=>1000) qY (ziH (VV cl mO hr)) (xl zj7)) ziK,rfl⟩)
def Zc(h:HasDef K mg "_law_cell_at" wZ)(NB:NBP P w base mg):Um P w K mg base:=yA.mk (N:=["script","k"]) (m:=2) (b:=Ur) h YY (um2 λ_ _ _ _ _ _ _ _=>rfl) rfl (λf cdv A outer s H E hr=> 
  (zi (j6 (yQ zcy uZ (qv 1) (FE.fb (zT zy xm rfl (nbg NB) yD (zk (qv 0) zt))) (nomark _)) (zl (zO (zu (qv 0) (qv 1)))) xv)
   (zl (zO ye))))
def zd9(h:HasDef K mg "_law_low" Wi)(NB:NBP P w base mg):JY P w K mg base:=yA.mk (N:=["top","bottom","a","b","rest"]) (m:=2) (b:=zaE) h j9 (um2 λ_ _ _ _ _ _ _ _=>rfl) rfl (λf cdv A outer s H E hr=> 
  (zi (zJ 2 j9.nd (zT zcM zla rfl (nbg NB) zhD (zk (qv 0) zt)))
   (zi (zJ 3 j9.nd (ze 1))
   (zi (zdh Zx qY (yQ zfT uZ (qv 3) qi (nomark _)) (zi (zJ 4 j9.nd (zC xH ju (qv 2) (qv 3)))
   (zi (zJ 2 j9.nd (ze 3))
   (zl (zJ 3 j9.nd (ze 4))))))
   (zl (zO (yC (za (zC yW xr (qv 0) (qv 2)) (za (zC yW xr (qv 1) (qv 2)) zh)))))))))
def Yv(h:HasDef K mg "_law_fraction" wc)(NB:NBP P w base mg)(bF:JY P w K mg base):vU P w K mg base:=yA.mk (N:=["cell"]) (m:=1) (b:=Js) h Yr (um1 λ_ _ _ _ _ _ _=>rfl) rfl (λf cdv A outer s H E hr=> 
  (zl (zO (zo bF hr rfl (za (zC UP U8 (FE.fb (zC xH ju (qv 0) qi)) qi) (za (zu (FL.fb (xR (za ye (za ye (za ye (za ye (za ye zh))))))) (FE.fb (zC xH ju (FE.fb (zC yW xr (qv 0) qi)) qi))) zh))))))
def Zn(h:HasDef K mg "_law_machine" wU)(NB:NBP P w base mg)(bO:vU P w K mg base):w9 P w K mg base:=yA.mk (N:=["cell","rooms","signs","out","k","steps","sign","rows","a","at"]) (m:=3) (b:=vk) h yF (um3 λ_ _ _ _ _ _ _ _ _=>rfl) rfl (λf cdv A outer s H E hr=> 
  (zi (xk 3 yF.nd (xR zh))
   (zi (jg qY rfl (yG rfl (nbg NB) (za (zC yH xn (qv 1) (FE.fb (zC jJ jI qi (FE.fb (zC yH xn (qv 1) (qv 2)))))) zh)) (zY 4 yF.nd) (zi (zJ 0 yF.nd (zC xH ju (FE.fb (zC jJ jI (FE.fb (zC yH xn (qv 0) qi)) qi)) qi))
   (zl (j8 3 (zcP (yQ (wQ hr.units) Uu (FE.fb (zC xH ju (FE.fb (zC yW xr (qv 0) qi)) qi)) qi (nomark _)) (yC (za ye (za ye zh))) (zo bO hr rfl (za (zC yW xr (qv 0) qi) zh)))))))
   (zi (xk 5 yF.nd (xR zh))
   (zi (jg qY rfl (yG rfl (nbg NB) (za (ze 2) zh)) (zY 6 yF.nd) (zi (xk 7 yF.nd (xR zh))
   (zi (jg qY rfl (yG rfl (nbg NB) (za (ze 1) zh)) (zY 8 yF.nd) (zi (zJ 9 yF.nd (zC jJ jI (FE.fb (zC yH xn qi (qv 1))) (FE.fb (zC yH xn (FE.fb (zC jJ jI (FE.fb (zC yH xn (qv 6) (qv 1))) (qv 8))) (qv 1)))))
   (zl (j8 7 (zQ zx yh rfl (nbg NB) zZ (zk (FL.fb (Zu (yl 3) (J1 (ze 9)) (J1 (zC jJ jI (qv 9) (qv 1))))) zt))))))
   (zl (j8 5 (zQ zx yh rfl (nbg NB) zZ (zk (yl 7) zt)))))))
   (zl (zO (yC (za (zQ zx yh rfl (nbg NB) zZ (zk (FL.fb (Zu (yl 3) zfE (J1 (ze 1)))) zt)) (za (zQ zx yh rfl (nbg NB) zZ (zk (yl 5) zt)) (za (zQ zx yh rfl (nbg NB) zZ (zk (FL.fb (Zu (yl 3) (J1 (ze 1)) (J1 (zC yH xn qi (qv 1))))) zt)) zh)))))))))))
def zak(h:HasDef K mg "_law_beside" xT)(NB:NBP P w base mg):u0 P w K mg base:=yA.mk (N:=["one","other","left","right","steps","k","rows"]) (m:=2) (b:=VJ) h xZ (um2 λ_ _ _ _ _ _ _ _=>rfl) rfl (λf cdv A outer s H E hr=> 
  (zi (zJ 2 xZ.nd (zQ zx yh rfl (nbg NB) zZ (zk (FL.fb (yf (Ts:=["k"]) (F:=[]) rfl (yn (FE.fb (zu (qv 0) qi))) (csx (sc:=zc xT)) xG (fgc 0) (λ_ _ _ _ _=>(yC (za ye (za ye zh)))))) zt)))
   (zi (zJ 3 xZ.nd (zQ zx yh rfl (nbg NB) zZ (zk (FL.fb (yf (Ts:=["k"]) (F:=[]) rfl (yn (FE.fb (zu (qv 1) qi))) (csx (sc:=zc xT)) xG (fgc 0) (λ_ _ _ _ _=>(yC (za ye (za ye zh)))))) zt)))
   (zi (xk 4 xZ.nd (xR zh))
   (zi (jg qY rfl (yG rfl (nbg NB) (za (zT zy xm rfl (nbg NB) yD (zk (FE.fb (zu (qv 0) qi)) zt)) zh)) (zY 5 xZ.nd) (zi (Ud 6 (Ts:=["row"]) (F:=[3]) xZ.nd rfl (yn (FE.fb (zu (FE.fb (zu (qv 0) qi)) (qv 5)))) (csx (sc:=zc xT)) (xE rfl rfl xG) (fgc 0) (λ_ _ _ _ _=>(zC j4 vK (qv 0) (qv 1))))
   (zl (j8 4 (zQ zx yh rfl (nbg NB) zZ (zk (FL.fb (zie (zej 6) (FL.fk (yf (Ts:=["row"]) (F:=[2]) rfl (yn (FE.fb (zu (FE.fb (zu (qv 1) qi)) (qv 5)))) (csx (sc:=zc xT)) (xE rfl rfl xG) (fgc 0) (λ_ _ _ _ _=>(zC j4 vK (qv 1) (qv 0))))))) zt))))))
   (zl (zO (yC (za (zC j4 vK (FE.fb (zu (qv 0) qi)) (FE.fb (zu (qv 1) qi))) (za (zQ zx yh rfl (nbg NB) zZ (zk (yl 4) zt)) (za (zC j4 vK (FE.fb (zu (qv 0) qi)) (FE.fb (zu (qv 1) qi))) zh)))))))))))
def zcc(h:HasDef K mg "_law_times" JS)(NB:NBP P w base mg)(bF:JY P w K mg base):vx P w K mg base:=yA.mk (N:=["one","other"]) (m:=2) (b:=Yo) h zbA (um2 λ_ _ _ _ _ _ _ _=>rfl) rfl (λf cdv A outer s H E hr=> 
  (zl (zO (zo bF hr rfl (za (zC yH xn (FE.fb (zu (qv 0) qi)) (FE.fb (zu (qv 1) qi))) (za (zC yH xn (FE.fb (zu (qv 0) qi)) (FE.fb (zu (qv 1) qi))) zh))))))
def zcH(h:HasDef K mg "_law_plus" UW)(NB:NBP P w base mg)(bF:JY P w K mg base):vV P w K mg base:=yA.mk (N:=["one","other"]) (m:=2) (b:=Z7) h zc5 (um2 λ_ _ _ _ _ _ _ _=>rfl) rfl (λf cdv A outer s H E hr=> 
  (zl (zO (zo bF hr rfl (za (zC jJ jI (FE.fb (zC yH xn (FE.fb (zu (qv 0) qi)) (FE.fb (zu (qv 1) qi)))) (FE.fb (zC yH xn (FE.fb (zu (qv 1) qi)) (FE.fb (zu (qv 0) qi))))) (za (zC yH xn (FE.fb (zu (qv 0) qi)) (FE.fb (zu (qv 1) qi))) zh))))))
def VS(h:HasDef K mg "_law_turned_row" vg)(NB:NBP P w base mg)(bz:vx P w K mg base)(bA:vV P w K mg base):x3 P w K mg base 3 "_law_turned_row" ["row","i","j","c"] yO:=x3.mk (N:=["row","i","j","c","out"]) (m:=4) (b:=uJ) h wu (λ_ _ _ _ _ _ us hl=>match us,hl with |[_,_,_,_],_=>rfl) rfl (λf cdv A outer s H E hr=> 
  (zi (xk 4 wu.nd (vP ji Wq rfl (nbg NB) wq (zk (qv 0) zt)))
   (zi (YE 4 (ze 2) (zo bA hr rfl (za (zu (yl 4) (qv 2)) (za (zo bz hr rfl (za (ze 3) (za (zu (yl 4) (qv 1)) zh))) zh))))
   (zl (YI 4)))))
def zbP(h:HasDef K mg "_law_mixed" jO)(NB:NBP P w base mg)(bX:x3 P w K mg base 3 "_law_turned_row" ["row","i","j","c"] yO)(bz:vx P w K mg base)(bA:vV P w K mg base):Yc P w K mg base:=yA.mk (N:=["machine","i","j","c","less","first","last","steps","step","rows"]) (m:=4) (b:=Ye) h xO (λ_ _ _ _ _ _ us hl=>match us,hl with |[_,_,_,_],_=>rfl) rfl (λf cdv A outer s H E hr=> 
  (zi (zJ 4 xO.nd (yC (za (zC UP U8 qi (FE.fb (zu (qv 3) qi))) (za (zu (qv 3) qi) zh))))
   (zi (xk 5 xO.nd (jD bX hr rfl (za (zu (qv 0) qi) (za (ze 1) (za (ze 2) (za (ze 3) zh))))))
   (zi (xk 6 xO.nd (jD bX hr rfl (za (zu (qv 0) qi) (za (ze 2) (za (ze 1) (za (ze 4) zh))))))
   (zi (xk 7 xO.nd (xR zh))
   (zi (jg qY rfl (Vb (zu (qv 0) qi)) (zY 8 xO.nd) (zi (xk 9 xO.nd (yf (Ts:=["row"]) (F:=[1,2,3]) rfl (yn (qv 8)) (csx (sc:=zc jO)) (xE rfl rfl (xE rfl rfl (xE rfl rfl xG))) (fgc 0) (λ_ _ _ _ _=>(FL.fe (jD bX hr rfl (za (ze 0) (za (ze 1) (za (ze 2) (za (ze 3) zh)))))))))
   (zi (YE 9 (ze 1) (FL.fe (yf (Ts:=["b"]) (F:=[1,2,4,9]) rfl (FI.fib (yG rfl (nbg NB) (za (zT zy xm rfl (nbg NB) yD (zk (yl 9) zt)) zh))) (csx (sc:=zc jO)) (xE rfl rfl (xE rfl rfl (xE rfl rfl (xE rfl rfl xG)))) (fgc 0) (λ_ _ _ _ _=>(zo bA hr rfl (za (zu (FE.fb (zu (yl 4) (qv 1))) (qv 0)) (za (zo bz hr rfl (za (ze 3) (za (zu (FE.fb (zu (yl 4) (qv 2))) (qv 0)) zh))) zh)))))))
   (zl (j8 7 (zQ zx yh rfl (nbg NB) zZ (zk (FL.fb (yf (Ts:=["row"]) (F:=[]) rfl (yn (yl 9)) (csx (sc:=zc jO)) xG (fgc 0) (λ_ _ _ _ _=>(zQ zx yh rfl (nbg NB) zZ (zk (qv 0) zt))))) zt)))))))
   (zl (zO (yC (za (zQ zx yh rfl (nbg NB) zZ (zk (yl 5) zt)) (za (zQ zx yh rfl (nbg NB) zZ (zk (yl 7) zt)) (za (zQ zx yh rfl (nbg NB) zZ (zk (yl 6) zt)) zh))))))))))))
def zeW(h:HasDef K mg "_law_kin" J6)(NB:NBP P w base mg)(bP:w9 P w K mg base)(bM:u0 P w K mg base)(bO:vU P w K mg base)(cb:Yc P w K mg base):za0 P w K mg base:=yA.mk (N:=["machine","cell","more","rooms","signs","idle","none","k","i","j"]) (m:=3) (b:=zaH) h yP (um3 λ_ _ _ _ _ _ _ _ _=>rfl) rfl (λf cdv A outer s H E hr=> 
  (zi (zJ 3 yP.nd (zT zy xm rfl (nbg NB) yD (zk (FE.fb (zu (qv 0) qi)) zt)))
   (zi (zJ 4 yP.nd (zT zy xm rfl (nbg NB) yD (zk (FE.fb (zu (qv 0) qi)) zt)))
   (zi (j6 (yQ zfT uZ (qv 2) qi (nomark _)) (zi (zJ 5 yP.nd (zo bP hr rfl (za (ze 1) (za (ze 2) (za (ze 4) zh)))))
   (zi (zJ 6 yP.nd (zQ zx yh rfl (nbg NB) zZ (zk (FL.fb (yf (Ts:=["k"]) (F:=[]) rfl (FI.fib (yG rfl (nbg NB) (za (ze 2) zh))) (csx (sc:=zc J6)) xG (fgc 0) (λ_ _ _ _ _=>(yC (za ye (za ye zh)))))) zt)))
   (zl (j6 (yQ (wQ hr.units) Uu (FE.fb (zC xH ju (qv 1) qi)) qi (nomark _)) (zl (zJ 0 yP.nd (zo bM hr rfl (za (ze 0) (za (yC (za (ze 6) (za (zu (qv 5) qi) (za (zu (qv 5) qi) zh)))) zh))))) (zl (zJ 0 yP.nd (zo bM hr rfl (za (ze 0) (za (yC (za (zu (qv 5) qi) (za (zu (qv 5) qi) (za (ze 6) zh)))) zh))))))))) xv)
   (zi (zJ 3 yP.nd (zC jJ jI (qv 3) (qv 2)))
   (zi (jg qY rfl (yG rfl (nbg NB) (za ye zh)) (zY 7 yP.nd) (zi (zJ 1 yP.nd (zC xH ju (FE.fb (zC jJ jI (FE.fb (zC yH xn (qv 1) qi)) qi)) qi))
   (zi (zJ 8 yP.nd (zC xH ju (FE.fb (zC yW xr (qv 1) qi)) (FE.fb (zT (za6 rfl) zkX rfl (nbg NB) ziv (zk qi (zk (qv 3) zt))))))
   (zi (zJ 9 yP.nd (zC xH ju (FE.fb (zC yW xr (qv 1) qi)) (FE.fb (zT (za6 rfl) zkX rfl (nbg NB) ziv (zk qi (zk (qv 3) zt))))))
   (zl (j6 (yQ (wk hr.units) JR (qv 8) (qv 9) (nomark _)) (zl (zJ 0 yP.nd (zo cb hr rfl (za (ze 0) (za (ze 8) (za (ze 9) (za (zo bO hr rfl (za (zC yW xr (qv 1) qi) zh)) zh))))))) xv))))))
   (zl (zO (ze 0)))))))))
def zdX(h:HasDef K mg "_law_word" UJ)(NB:NBP P w base mg):zag P w K mg base:=yA.mk (N:=["cell","signs","most","word","k"]) (m:=3) (b:=YN) h wF (um3 λ_ _ _ _ _ _ _ _ _=>rfl) rfl (λf cdv A outer s H E hr=> 
  (zi (xk 3 wF.nd (xR zh))
   (zi (jg qY rfl (yG rfl (nbg NB) (za (zC xH ju (qv 0) (FE.fb (zC jJ jI (qv 2) qi))) zh)) (zY 4 wF.nd) (zi (zJ 0 wF.nd (zC xH ju (FE.fb (zC jJ jI (FE.fb (zC yH xn (qv 0) qi)) qi)) qi))
   (zl (j8 3 (zC xH ju (FE.fb (zC yW xr (qv 0) qi)) (qv 1))))))
   (zl (zO (zQ zx yh rfl (nbg NB) zZ (zk (yl 3) zt)))))))
def zeB(h:HasDef K mg "_law_dot" Wv)(NB:NBP P w base mg)(bz:vx P w K mg base)(bA:vV P w K mg base):J2 P w K mg base:=yA.mk (N:=["one","other","total","k"]) (m:=2) (b:=zaU) h Je (um2 λ_ _ _ _ _ _ _ _=>rfl) rfl (λf cdv A outer s H E hr=> 
  (zi (zJ 2 Je.nd (yC (za ye (za ye zh))))
   (zi (jg qY rfl (yG rfl (nbg NB) (za (zT zy xm rfl (nbg NB) yD (zk (qv 0) zt)) zh)) (zY 3 Je.nd) (zl (zJ 2 Je.nd (zo bA hr rfl (za (ze 2) (za (zo bz hr rfl (za (zu (qv 0) (qv 3)) (za (zu (qv 1) (qv 3)) zh))) zh))))))
   (zl (zO (ze 2))))))
def zeP(h:HasDef K mg "_law_led" J0)(NB:NBP P w base mg)(bG:J2 P w K mg base):x3 P w K mg base 4 "_law_led" ["row","step"] xo:=x3.mk (N:=["row","step","out","b"]) (m:=2) (b:=zaG) h U6 (um2 λ_ _ _ _ _ _ _ _=>rfl) rfl (λf cdv A outer s H E hr=> 
  (zi (xk 2 U6.nd (xR zh))
   (zi (jg qY rfl (yG rfl (nbg NB) (za (zT zy xm rfl (nbg NB) yD (zk (qv 0) zt)) zh)) (zY 3 U6.nd) (zl (j8 2 (zo bG hr rfl (za (ze 0) (za (FL.fe (yf (Ts:=["a"]) (F:=[1,3]) rfl (FI.fib (yG rfl (nbg NB) (za (zT zy xm rfl (nbg NB) yD (zk (qv 0) zt)) zh))) (csx (sc:=zc J0)) (xE rfl rfl (xE rfl rfl xG)) (fgc 0) (λ_ _ _ _ _=>(zu (FE.fb (zu (qv 1) (qv 0))) (qv 2))))) zh))))))
   (zl (YI 2)))))
def zeJ(h:HasDef K mg "_law_row" WX)(NB:NBP P w base mg)(bQ:x3 P w K mg base 4 "_law_led" ["row","step"] xo):x3 P w K mg base 5 "_law_row" ["machine","word"] uv:=x3.mk (N:=["machine","word","row","sign"]) (m:=2) (b:=zbf) h u6 (um2 λ_ _ _ _ _ _ _ _=>rfl) rfl (λf cdv A outer s H E hr=> 
  (zi (xk 2 u6.nd (vP ji Wq rfl (nbg NB) wq (zk (FE.fb (zu (qv 0) qi)) zt)))
   (zi (jg qY rfl (Vb (ze 1)) (zY 3 u6.nd) (zl (FS.frz 2 (xk 2 u6.nd (jD bQ hr rfl (za (ze 2) (za (zu (FE.fb (zu (qv 0) qi)) (qv 3)) zh)))))))
   (zl (YI 2)))))
def zaz(h:HasDef K mg "_law_weight" u9)(NB:NBP P w base mg)(cc:x3 P w K mg base 5 "_law_row" ["machine","word"] uv)(bG:J2 P w K mg base):V1 P w K mg base:=yA.mk (N:=["machine","word"]) (m:=2) (b:=Vq) h zaj (um2 λ_ _ _ _ _ _ _ _=>rfl) rfl (λf cdv A outer s H E hr=> 
  (zl (zO (zo bG hr rfl (za (FL.fe (jD cc hr rfl (za (ze 0) (za (ze 1) zh)))) (za (zu (qv 0) qi) zh))))))
def Wz(h:HasDef K mg "refuse_unlike" vE)(NB:NBP P w base mg):Jm P w K mg base:=yA.mk (N:=["one","other","one_signs","other_signs"]) (m:=2) (b:=Jo) h j7 (um2 λ_ _ _ _ _ _ _ _=>rfl) rfl (λf cdv A outer s H E hr=> 
  (zi (zJ 2 j7.nd (zT zy xm rfl (nbg NB) yD (zk (FE.fb (zu (qv 0) qi)) zt)))
   (zi (zJ 3 j7.nd (zT zy xm rfl (nbg NB) yD (zk (FE.fb (zu (qv 1) qi)) zt)))
   (zl (j6 (yQ (wk hr.units) JR (qv 2) (qv 3) (nomark _)) (zl ziP) xv)))))
def VF(h:HasDef K mg "common_divisor" vc)(NB:NBP P w base mg):jj P w K mg base:=yA.mk (N:=["one","other","rest"]) (m:=2) (b:=ur) h x6 (um2 λ_ _ _ _ _ _ _ _=>rfl) rfl (λf cdv A outer s H E hr=> 
  (zi (zdh wN qY (yQ (wk hr.units) JR (qv 1) qi (nomark _)) (zi (zJ 2 x6.nd (zC xH ju (qv 0) (qv 1)))
   (zi (zJ 0 x6.nd (ze 1))
   (zl (zJ 1 x6.nd (ze 2))))))
   (zl (zO (zT zcM zla rfl (nbg NB) zhD (zk (qv 0) zt))))))
def zg6(h:HasDef K mg "lowest" ZV)(NB:NBP P w base mg)(bH:jj P w K mg base):Vn P w K mg base:=yA.mk (N:=["top","bottom","common"]) (m:=2) (b:=zdy) h WN (um2 λ_ _ _ _ _ _ _ _=>rfl) rfl (λf cdv A outer s H E hr=> 
  (zi (zJ 2 WN.nd (zo bH hr rfl (za (ze 0) (za (ze 1) zh))))
   (zi (j6 (yQ zcy uZ (qv 1) qi (nomark _)) (zl (zJ 2 WN.nd (YT (ze 2)))) xv)
   (zl (zO (yC (za (zC yW xr (qv 0) (qv 2)) (za (zC yW xr (qv 1) (qv 2)) zh))))))))
def ziB(h:HasDef K mg "times" zca)(NB:NBP P w base mg)(bE:Vn P w K mg base):zfR P w K mg base:=yA.mk (N:=["one","other"]) (m:=2) (b:=zfS) h zhg (um2 λ_ _ _ _ _ _ _ _=>rfl) rfl (λf cdv A outer s H E hr=> 
  (zl (zO (zo bE hr rfl (za (zC yH xn (FE.fb (zu (qv 0) qi)) (FE.fb (zu (qv 1) qi))) (za (zC yH xn (FE.fb (zu (qv 0) qi)) (FE.fb (zu (qv 1) qi))) zh))))))
def zao(h:HasDef K mg "scaled_row" vI)(NB:NBP P w base mg)(cj:zfR P w K mg base):VZ P w K mg base:=yA.mk (N:=["row","fraction"]) (m:=2) (b:=V3) h zal (um2 λ_ _ _ _ _ _ _ _=>rfl) rfl (λf cdv A outer s H E hr=> 
  (zl (zO (zQ zx yh rfl (nbg NB) zZ (zk (FL.fb (yf (Ts:=["number"]) (F:=[1]) rfl (yn (qv 0)) (csx (sc:=zc vI)) (xE rfl rfl xG) (fgc 0) (λ_ _ _ _ _=>(zo cj hr rfl (za (ze 0) (za (ze 1) zh)))))) zt)))))
def zeI(h:HasDef K mg "noughts" Wr)(NB:NBP P w base mg)(c_NOUGHT:GC K mg "NOUGHT" (.tuple [.int 0,.int 1])):WQ P w K mg base:=yA.mk (N:=["rooms"]) (m:=1) (b:=zbd) h ze0 (um1 λ_ _ _ _ _ _ _=>rfl) rfl (λf cdv A outer s H E hr=> 
  (zl (zO (zC zjv zj4 (FE.fb (yC (za (YC c_NOUGHT rfl) zh))) (qv 0)))))
def YM(h:HasDef K mg "joined_step" jv)(NB:NBP P w base mg)(bR:WQ P w K mg base):UB P w K mg base:=yA.mk (N:=["one_step","crossings","other_step","one_rows","other_rows"]) (m:=3) (b:=UD) h vY (um3 λ_ _ _ _ _ _ _ _ _=>rfl) rfl (λf cdv A outer s H E hr=> 
  (zi (Ud 3 (Ts:=["row","across"]) (F:=[]) vY.nd rfl (Yw true false rfl (nbg NB) (zk (qv 0) (zk (qv 1) zt))) (csx (sc:=zc jv)) xG (λ_ _ _ _ _=>(uM rfl (zY 0 (show(["row","across"]:LSr).Nodup by decide+kernel)) (zY 1 (show(["row","across"]:LSr).Nodup by decide+kernel)))) (λ_ _ _ _ _=>(zC j4 vK (qv 0) (qv 1))))
   (zi (Ud 4 (Ts:=["row"]) (F:=[0]) vY.nd rfl (yn (qv 2)) (csx (sc:=zc jv)) (xE rfl rfl xG) (fgc 0) (λ_ _ _ _ _=>(zC j4 vK (FE.fb (zo bR hr rfl (za (zT zy xm rfl (nbg NB) yD (zk (qv 1) zt)) zh))) (qv 0))))
   (zl (zO (zQ zx yh rfl (nbg NB) zZ (zk (FL.fb (zie (zej 3) (zej 4))) zt)))))))
def zat(h:HasDef K mg "added_step" uL)(NB:NBP P w base mg)(bR:WQ P w K mg base)(ck:UB P w K mg base):VO P w K mg base:=yA.mk (N:=["one_step","other_step","crossings"]) (m:=2) (b:=V2) h Uq (um2 λ_ _ _ _ _ _ _ _=>rfl) rfl (λf cdv A outer s H E hr=> 
  (zi (xk 2 Uq.nd (zia (FL.fk (xR (za (zo bR hr rfl (za (zT zy xm rfl (nbg NB) yD (zk (qv 1) zt)) zh)) zh))) (zT zy xm rfl (nbg NB) yD (zk (qv 0) zt))))
   (zl (FS.frz 2 (zO (zo ck hr rfl (za (ze 0) (za (ze 2) (za (ze 1) zh)))))))))
def zg2(h:HasDef K mg "beside" VB)(NB:NBP P w base mg)(cm:VO P w K mg base):zcR P w K mg base:=yA.mk (N:=["one","other","steps"]) (m:=2) (b:=zcK) h zaN (um2 λ_ _ _ _ _ _ _ _=>rfl) rfl (λf cdv A outer s H E hr=> 
  (zi (Ud 2 (Ts:=["one_step","other_step"]) (F:=[]) zaN.nd rfl (Yw true true rfl (nbg NB) (zk (FE.fb (zu (qv 0) qi)) (zk (FE.fb (zu (qv 1) qi)) zt))) (csx (sc:=zc VB)) xG (λ_ _ _ _ _=>(uM rfl (zY 0 (show(["one_step","other_step"]:LSr).Nodup by decide+kernel)) (zY 1 (show(["one_step","other_step"]:LSr).Nodup by decide+kernel)))) (λ_ _ _ _ _=>(zo cm hr rfl (za (ze 0) (za (ze 1) zh)))))
   (zl (zO (yC (za (zC j4 vK (FE.fb (zu (qv 0) qi)) (FE.fb (zu (qv 1) qi))) (za (zQ zx yh rfl (nbg NB) zZ (zk (yl 2) zt)) (za (zC j4 vK (FE.fb (zu (qv 0) qi)) (FE.fb (zu (qv 1) qi))) zh))))))))
def zam(h:HasDef K mg "difference" uW)(NB:NBP P w base mg)(c_MINUS_ONE:GC K mg "MINUS_ONE" (.tuple [.int (-1),.int 1]))(cn:Jm P w K mg base)(cq:VZ P w K mg base)(cu:zcR P w K mg base):V6 P w K mg base:=yA.mk (N:=["one","other"]) (m:=2) (b:=Vr) h zas (um2 λ_ _ _ _ _ _ _ _=>rfl) rfl (λf cdv A outer s H E hr=> 
  (zi (zja (zo cn hr rfl (za (ze 0) (za (ze 1) zh))))
   (zl (zO (zo cu hr rfl (za (ze 0) (za (yC (za (zu (qv 1) qi) (za (zu (qv 1) qi) (za (zo cq hr rfl (za (zu (qv 1) qi) (za (YC c_MINUS_ONE rfl) zh))) zh)))) zh)))))))
def Wy(h:HasDef K mg "shared_bottom" vB)(NB:NBP P w base mg)(bH:jj P w K mg base):jG P w K mg base:=yA.mk (N:=["fractions","bottom","fraction"]) (m:=1) (b:=Jl) h jr (um1 λ_ _ _ _ _ _ _=>rfl) rfl (λf cdv A outer s H E hr=> 
  (zi (zJ 1 jr.nd ye)
   (zi (jg qY rfl (Vb (ze 0)) (zY 2 jr.nd) (zl (zJ 1 jr.nd (zC yH xn (qv 1) (FE.fb (zC yW xr (FE.fb (zu (qv 2) qi)) (FE.fb (zo bH hr rfl (za (ze 1) (za (zu (qv 2) qi) zh))))))))))
   (zl (zO (ze 1))))))
def zbL(h:HasDef K mg "tops_over" wH)(NB:NBP P w base mg):x3 P w K mg base 1 "tops_over" ["fractions","bottom"] yX:=x3.mk (N:=["fractions","bottom"]) (m:=2) (b:=Yg) h zbv (um2 λ_ _ _ _ _ _ _ _=>rfl) rfl (λf cdv A outer s H E hr=> 
  (zl (J8 (yf (Ts:=["fraction"]) (F:=[1]) rfl (yn (qv 0)) (csx (sc:=zc wH)) (xE rfl rfl xG) (fgc 0) (λ_ _ _ _ _=>(zC yH xn (FE.fb (zu (qv 0) qi)) (FE.fb (zC yW xr (qv 1) (FE.fb (zu (qv 0) qi))))))))))
def Wa(h:HasDef K mg "without_common" jq)(NB:NBP P w base mg)(bH:jj P w K mg base):x3 P w K mg base 2 "without_common" ["tops"] xc:=x3.mk (N:=["tops","common","top"]) (m:=1) (b:=uu) h x8 (um1 λ_ _ _ _ _ _ _=>rfl) rfl (λf cdv A outer s H E hr=> 
  (zi (zJ 1 x8.nd ye)
   (zi (jg qY rfl (Vb (ze 0)) (zY 2 x8.nd) (zl (zJ 1 x8.nd (zo bH hr rfl (za (ze 2) (za (ze 1) zh))))))
   (zi (j6 (yQ zcy uZ (qv 1) qi (nomark _)) (zl (J8 (vP ji Wq rfl (nbg NB) wq (zk (qv 0) zt)))) xv)
   (zl (J8 (yf (Ts:=["top"]) (F:=[1]) rfl (yn (qv 0)) (csx (sc:=zc jq)) (xE rfl rfl xG) (fgc 0) (λ_ _ _ _ _=>(zC yW xr (qv 0) (qv 1))))))))))
def zbw(h:HasDef K mg "whole_row" JN)(NB:NBP P w base mg)(bC:jG P w K mg base)(bD:x3 P w K mg base 1 "tops_over" ["fractions","bottom"] yX)(bZ:x3 P w K mg base 2 "without_common" ["tops"] xc):x3 P w K mg base 3 "whole_row" ["row"] xM:=x3.mk (N:=["row"]) (m:=1) (b:=W8) h zbq (um1 λ_ _ _ _ _ _ _=>rfl) rfl (λf cdv A outer s H E hr=> 
  (zl (J8 (jD bZ hr rfl (za (FL.fe (jD bD hr rfl (za (ze 0) (za (zo bC hr rfl (za (ze 0) zh)) zh)))) zh)))))
def VE(h:HasDef K mg "whole_pair_sum" jk)(NB:NBP P w base mg):xI P w K mg base:=yA.mk (N:=["ones","others"]) (m:=2) (b:=uo) h VY (um2 λ_ _ _ _ _ _ _ _=>rfl) rfl (λf cdv A outer s H E hr=> 
  (zl (zO (zT (ziJ rfl) zm1 rfl (nbg NB) zmv (zk (FL.fb (yf (Ts:=["one","other"]) (F:=[]) rfl (Yw false false rfl (nbg NB) (zk (qv 0) (zk (qv 1) zt))) (csx (sc:=zc jk)) xG (λ_ _ _ _ _=>(uM rfl (zY 0 (show(["one","other"]:LSr).Nodup by decide+kernel)) (zY 1 (show(["one","other"]:LSr).Nodup by decide+kernel)))) (λ_ _ _ _ _=>(zC yH xn (qv 0) (qv 1))))) zt)))))
def zgk(h:HasDef K mg "column" Vp)(NB:NBP P w base mg):VM P w K mg base:=yA.mk (N:=["step","room"]) (m:=2) (b:=zdK) h zga (um2 λ_ _ _ _ _ _ _ _=>rfl) rfl (λf cdv A outer s H E hr=> 
  (zl (zO (zQ zx yh rfl (nbg NB) zZ (zk (FL.fb (yf (Ts:=["row"]) (F:=[1]) rfl (yn (qv 0)) (csx (sc:=zc Vp)) (xE rfl rfl xG) (fgc 0) (λ_ _ _ _ _=>(zu (qv 0) (qv 1))))) zt)))))
def zau(h:HasDef K mg "whole_step" vG)(NB:NBP P w base mg)(bC:jG P w K mg base)(bI:VM P w K mg base)(bD:x3 P w K mg base 1 "tops_over" ["fractions","bottom"] yX):Wf P w K mg base:=yA.mk (N:=["step","numbers","row","bottom","columns"]) (m:=1) (b:=Vx) h jB (um1 λ_ _ _ _ _ _ _=>rfl) rfl (λf cdv A outer s H E hr=> 
  (zi (xk 1 jB.nd (xR zh))
   (zi (jg qY rfl (Vb (ze 0)) (zY 2 jB.nd) (zl (ze1 1 (qv 2))))
   (zi (zJ 3 jB.nd (zdR bC hr rfl (zk (yl 1) zt)))
   (zi (Ud 4 (Ts:=["room"]) (F:=[0,3]) jB.nd rfl (FI.fib (yG rfl (nbg NB) (za (zT zy xm rfl (nbg NB) yD (zk (qv 0) zt)) zh))) (csx (sc:=zc vG)) (xE rfl rfl (xE rfl rfl xG)) (fgc 0) (λ_ _ _ _ _=>(FL.fe (jD bD hr rfl (za (zo bI hr rfl (za (ze 1) (za (ze 0) zh))) (za (ze 2) zh))))))
   (zl (FS.frz 4 (zO (yC (za (ze 4) (za (ze 3) zh)))))))))))
def zcV(h:HasDef K mg "unit_row" U9)(NB:NBP P w base mg):x3 P w K mg base 1 "unit_row" ["place","places"] vT:=x3.mk (N:=["place","places","row"]) (m:=2) (b:=ZK) h Yk (um2 λ_ _ _ _ _ _ _ _=>rfl) rfl (λf cdv A outer s H E hr=> 
  (zi (xk 2 Yk.nd (zia (FL.fk (xR (za ye zh))) (ze 1)))
   (zi (YE 2 (ze 0) ye)
   (zl (YI 2)))))
def zdd(h:HasDef K mg "narrowed" Jc)(NB:NBP P w base mg):x3 P w K mg base 1 "narrowed" ["check","number","gone","pivot","divisor"] Jj:=x3.mk (N:=["check","number","gone","pivot","divisor"]) (m:=5) (b:=Zs) h zcU (λ_ _ _ _ _ _ us hl=>match us,hl with |[_,_,_,_,_],_=>rfl) rfl (λf cdv A outer s H E hr=> 
  (zl (J8 (yf (Ts:=["mine","theirs"]) (F:=[1,3,4]) rfl (Yw false false rfl (nbg NB) (zk (qv 0) (zk (qv 2) zt))) (csx (sc:=zc Jc)) (xE rfl rfl (xE rfl rfl (xE rfl rfl xG))) (λ_ _ _ _ _=>(uM rfl (zY 0 (show(["mine","theirs","number","pivot","divisor"]:LSr).Nodup by decide+kernel)) (zY 1 (show(["mine","theirs","number","pivot","divisor"]:LSr).Nodup by decide+kernel)))) (λ_ _ _ _ _=>(zC yW xr (FE.fb (zC UP U8 (FE.fb (zC yH xn (qv 3) (qv 0))) (FE.fb (zC yH xn (qv 2) (qv 1))))) (qv 4)))))))
def zgh(h:HasDef K mg "led_on" Vm)(NB:NBP P w base mg)(bJ:xI P w K mg base):x3 P w K mg base 2 "led_on" ["tops","columns"] Wd:=x3.mk (N:=["tops","columns"]) (m:=2) (b:=zc1) h zgU (um2 λ_ _ _ _ _ _ _ _=>rfl) rfl (λf cdv A outer s H E hr=> 
  (zl (J8 (yf (Ts:=["entering"]) (F:=[0]) rfl (yn (qv 1)) (csx (sc:=zc Vm)) (xE rfl rfl xG) (fgc 0) (λ_ _ _ _ _=>(zo bJ hr rfl (za (ze 1) (za (ze 0) zh))))))))
def zee(h:HasDef K mg "parting" Wo)(NB:NBP P w base mg)(bS:yA P w K mg base 8 "compared" ["one","other"] (xB CS)):yA P w K mg base 9 "parting" ["one","other"] (J7 CS):=yA.mk (N:=["one","other"]) (m:=2) (b:=zbe CS) h zeE (um2 λ_ _ _ _ _ _ _ _=>rfl) rfl (λf cdv A outer s H E hr=> 
  (zl (zO (zu (FE.fb (zo bS hr rfl (za (ze 0) (za (ze 1) zh)))) qi))))
def zdE(h:HasDef K mg "rows_for" uT)(NB:NBP P w base mg)(bS:yA P w K mg base 8 "compared" ["one","other"] (xB CS)):yA P w K mg base 9 "rows_for" ["one","other"] (we CS):=yA.mk (N:=["one","other","told"]) (m:=2) (b:=Zi CS) h W4 (um2 λ_ _ _ _ _ _ _ _=>rfl) rfl (λf cdv A outer s H E hr=> 
  (zi (zJ 2 W4.nd (zo bS hr rfl (za (ze 0) (za (ze 1) zh))))
   (zi (j6 (yQ YG Vw (FE.fb (zu (qv 2) qi)) (FE.fb Wj) (nomark _)) (zl (zO Wj)) xv)
   (zl (zO (FL.fe (yf (Ts:=["row"]) (F:=[]) rfl (yn (FE.fb (zu (qv 2) qi))) (csx (sc:=zc uT)) xG (fgc 0) (λ_ _ _ _ _=>(FL.fe (yf (Ts:=["top"]) (F:=[]) rfl (yn (qv 0)) (zdW rfl (by decide+kernel) (by decide+kernel) (by decide+kernel)) xG (fgc 0) (λ_ _ _ _ _=>(yC (za (ze 0) (za ye zh))))))))))))))
def zd5(h:HasDef K mg "_law_both" uN)(NB:NBP P w base mg)(bM:u0 P w K mg base):YL P w K mg base:=yA.mk (N:=["one","other","less"]) (m:=2) (b:=YU) h Yp (um2 λ_ _ _ _ _ _ _ _=>rfl) rfl (λf cdv A outer s H E hr=> 
  (zi (zJ 2 Yp.nd (zQ zx yh rfl (nbg NB) zZ (zk (FL.fb (yf (Ts:=["part"]) (F:=[]) rfl (yn (FE.fb (zu (qv 1) qi))) (csx (sc:=zc uN)) xG (fgc 0) (λ_ _ _ _ _=>(yC (za (zC UP U8 qi (FE.fb (zu (qv 0) qi))) (za (zu (qv 0) qi) zh)))))) zt)))
   (zl (zO (zo bM hr rfl (za (ze 0) (za (yC (za (zu (qv 1) qi) (za (zu (qv 1) qi) (za (ze 2) zh)))) zh)))))))
def zc0(h:HasDef K mg "_law_over" UQ)(NB:NBP P w base mg):Zb P w K mg base:=yA.mk (N:=["part"]) (m:=1) (b:=zad) h zcN (um1 λ_ _ _ _ _ _ _=>rfl) rfl (λf cdv A outer s H E hr=> 
  (zi (j6 (yQ zcy uZ (FE.fb (zu (qv 0) qi)) qi (nomark _)) (zl (zO (yC (za (zC UP U8 qi (FE.fb (zu (qv 0) qi))) (za (zC UP U8 qi (FE.fb (zu (qv 0) qi))) zh))))) xv)
   (zl (zO (yC (za (zu (qv 0) qi) (za (zu (qv 0) qi) zh)))))))
def zcQ(h:HasDef K mg "_law_rank" vd)(NB:NBP P w base mg)(cv:Zb P w K mg base)(bz:vx P w K mg base)(bA:vV P w K mg base):Zv P w K mg base:=yA.mk (N:=["rows","left","done","k","at","base","r","part","less"]) (m:=1) (b:=YO) h xa (um1 λ_ _ _ _ _ _ _=>rfl) rfl (λf cdv A outer s H E hr=> 
  (zi (xk 1 xa.nd (yf (Ts:=["row"]) (F:=[]) rfl (yn (qv 0)) (csx (sc:=zc vd)) xG (fgc 0) (λ_ _ _ _ _=>(FL.fe (vP ji Wq rfl (nbg NB) wq (zk (qv 0) zt))))))
   (zi (zJ 2 xa.nd ye)
   (zi (jg qY rfl (yG rfl (nbg NB) (za (zcP (yQ zfT uZ (FE.fb (zT zy xm rfl (nbg NB) yD (zk (yl 1) zt))) qi (nomark _)) (zT zy xm rfl (nbg NB) yD (zk (FE.fb (zu (yl 1) qi)) zt)) ye) zh)) (zY 3 xa.nd) (zi (zg5 4 (Ts:=["r"]) (F:=[1,3]) xa.nd rfl (FI.fib (zaF rfl (nbg NB) (za (ze 2) (za (zT zy xm rfl (nbg NB) yD (zk (yl 1) zt)) zh)))) (csx (sc:=zc vd)) (xE rfl rfl (xE rfl rfl xG)) (fgc 0) (λ_ _ _ _ _=>(yQ (wk hr.units) JR (FE.fb (zu (FE.fb (zu (FE.fb (zu (yl 1) (qv 0))) (qv 2))) qi)) qi (nomark _))) (λ_ _ _ _ _=>(ze 0)))
   (zl (j6 (yQ zfT uZ (FE.fb (zT zy xm rfl (nbg NB) yD (zk (yl 4) zt))) qi (nomark _)) (zi (zl3 5 1 xa.nd (zu (yl 4) qi))
   (zi (zf8 1 (ze 2) (ze 5))
   (zi (jg qY rfl (zaF rfl (nbg NB) (za (zC jJ jI (qv 2) qi) (za (zT zy xm rfl (nbg NB) yD (zk (yl 1) zt)) zh))) (zY 6 xa.nd) (zl (j6 (yQ (wk hr.units) JR (FE.fb (zu (FE.fb (zu (FE.fb (zu (yl 1) (qv 6))) (qv 3))) qi)) qi (nomark _)) (zi (zJ 7 xa.nd (zo bz hr rfl (za (zu (FE.fb (zu (yl 1) (qv 6))) (qv 3)) (za (zo cv hr rfl (za (zu (qv 5) (qv 3)) zh)) zh))))
   (zi (zJ 8 xa.nd (yC (za (zC UP U8 qi (FE.fb (zu (qv 7) qi))) (za (zu (qv 7) qi) zh))))
   (zl (YE 1 (ze 6) (FL.fe (yf (Ts:=["c"]) (F:=[1,5,6,8]) rfl (FI.fib (yG rfl (nbg NB) (za (zT zy xm rfl (nbg NB) yD (zk (qv 5) zt)) zh))) (csx (sc:=zc vd)) (xE rfl rfl (xE rfl rfl (xE rfl rfl (xE rfl rfl xG)))) (fgc 0) (λ_ _ _ _ _=>(zo bA hr rfl (za (zu (FE.fb (zu (yl 1) (qv 3))) (qv 0)) (za (zo bz hr rfl (za (ze 4) (za (zu (qv 2) (qv 0)) zh))) zh)))))))))) xv)))
   (zl (zJ 2 xa.nd (zC jJ jI (qv 2) qi)))))) xv))))
   (zl (zO (ze 2)))))))
def Zj(h:HasDef K mg "_law_in_span" vj)(NB:NBP P w base mg)(b4:Zv P w K mg base):Uy P w K mg base:=yA.mk (N:=["rows","row"]) (m:=2) (b:=Us) h ZE (um2 λ_ _ _ _ _ _ _ _=>rfl) rfl (λf cdv A outer s H E hr=> 
  (zi (j6 (yQ (wQ hr.units) Uu (FE.fb (zT zy xm rfl (nbg NB) yD (zk (qv 0) zt))) qi (nomark _)) (zl (zO (zbW (wQ hr.units) Uu (FE.fb (zT zy xm rfl (nbg NB) yD (zk (FL.fb (zg9 (Ts:=["part"]) (F:=[]) rfl (yn (qv 1)) (csx (sc:=zc vj)) xG (fgc 0) (λ_ _ _ _ _=>(yQ (wk hr.units) JR (FE.fb (zu (qv 0) qi)) qi (nomark _))) (λ_ _ _ _ _=>(ze 0)))) zt))) qi (nomark _)))) xv)
   (zl (zO (zbW (wQ hr.units) Uu (FE.fb (zo b4 hr rfl (za (FL.fe (zm2 zkQ zjU (qv 0) (FL.fb (xR (za (ze 1) zh))))) zh))) (FE.fb (zo b4 hr rfl (za (ze 0) zh))) (nomark _))))))
def zbS(h:HasDef K mg "_law_shown" wo)(NB:NBP P w base mg)(cw:YL P w K mg base)(b5:Uy P w K mg base)(bG:J2 P w K mg base)(bQ:x3 P w K mg base 4 "_law_led" ["row","step"] xo):W3 P w K mg base:=yA.mk (N:=["one","other","rows","both","known","row","step"]) (m:=3) (b:=Ya) h j3 (um3 λ_ _ _ _ _ _ _ _ _=>rfl) rfl (λf cdv A outer s H E hr=> 
  (zi (zJ 3 j3.nd (zo cw hr rfl (za (ze 0) (za (ze 1) zh))))
   (zi (Ud 4 (Ts:=["row"]) (F:=[]) j3.nd rfl (yn (qv 2)) (csx (sc:=zc wo)) xG (fgc 0) (λ_ _ _ _ _=>(FL.fe (vP ji Wq rfl (nbg NB) wq (zk (qv 0) zt)))))
   (zi (j6 (zaa (Y6 (zdR b5 hr rfl (zk (yl 4) (zk (FL.fb (vP ji Wq rfl (nbg NB) wq (zk (FE.fb (zu (qv 3) qi)) zt))) zt))))) (zl (zO V4)) xv)
   (zi (FS.frz 4 (jg qY rfl (Vb (ze 4)) (zY 5 j3.nd) (zi (j6 (yQ (wk hr.units) JR (FE.fb (zu (FE.fb (zo bG hr rfl (za (ze 5) (za (zu (qv 3) qi) zh)))) qi)) qi (nomark _)) (zl (zO V4)) xv)
   (zl (jg qY rfl (Vb (zu (qv 3) qi)) (zY 6 j3.nd) (zl (j6 (zaa (Y6 (zo b5 hr rfl (za (ze 4) (za (FL.fe (jD bQ hr rfl (za (ze 5) (za (ze 6) zh)))) zh))))) (zl (zO V4)) xv)))))))
   (zl (zO V4)))))))
def zdb(h:HasDef K mg "pair_sum" UE)(NB:NBP P w base mg)(bC:jG P w K mg base)(bD:x3 P w K mg base 1 "tops_over" ["fractions","bottom"] yX)(bJ:xI P w K mg base)(bE:Vn P w K mg base):UN P w K mg base:=yA.mk (N:=["ones","others","ones_bottom","others_bottom","top"]) (m:=2) (b:=Zw) h wy (um2 λ_ _ _ _ _ _ _ _=>rfl) rfl (λf cdv A outer s H E hr=> 
  (zi (zJ 2 wy.nd (zo bC hr rfl (za (ze 0) zh)))
   (zi (zJ 3 wy.nd (zo bC hr rfl (za (ze 1) zh)))
   (zi (zJ 4 wy.nd (zo bJ hr rfl (za (FL.fe (jD bD hr rfl (za (ze 0) (za (ze 2) zh)))) (za (FL.fe (jD bD hr rfl (za (ze 1) (za (ze 3) zh)))) zh))))
   (zl (zO (zo bE hr rfl (za (ze 4) (za (zC yH xn (qv 2) (qv 3)) zh)))))))))
def Zq(h:HasDef K mg "shared_step" jz)(NB:NBP P w base mg)(bI:VM P w K mg base)(bT:UN P w K mg base):Ut P w K mg base:=yA.mk (N:=["step","places","shares","columns"]) (m:=3) (b:=Uv) h Jt (um3 λ_ _ _ _ _ _ _ _ _=>rfl) rfl (λf cdv A outer s H E hr=> 
  (zi (xk 3 Jt.nd (yf (Ts:=["place"]) (F:=[0]) rfl (yn (qv 1)) (csx (sc:=zc jz)) (xE rfl rfl xG) (fgc 0) (λ_ _ _ _ _=>(zo bI hr rfl (za (ze 1) (za (ze 0) zh))))))
   (zl (zO (zQ zx yh rfl (nbg NB) zZ (zk (FL.fb (ziR (x0:="share") (Ts:=["share"]) (F:=[3]) rfl (yn (qv 2)) (zd2 (sc:=zc jz) rfl rfl rfl (by decide+kernel) (λ_ _=>rfl) (λ_=>rfl) (by decide+kernel) (by decide+kernel)) (xE rfl rfl xG) (λ_ _ _ _ _=>(zY 0 (show(["share","columns"]:LSr).Nodup by decide+kernel))) (λ_ _ _ _ _=>(zQ zx yh rfl (nbg NB) zZ (zk (FL.fb (yf (Ts:=["entering"]) (F:=[0]) rfl (yn (yl 1)) (zcs rfl (by decide+kernel) (by decide+kernel) (by decide+kernel)) (xE rfl rfl xG) (fgc 0) (λ_ _ _ _ _=>(zo bT hr rfl (za (ze 1) (za (ze 0) zh)))))) zt))))) zt))))))
def zem(NB:NBP P w base mg)(h:HasDef K mg "reached" va)(cx:zgt P w K mg base 8 CR "whole_reach" ["machine"] (xY CS))(mF:Met P w K mg base 1 CS "full" ["self"] UX)(mS:zgq P w K mg base 4 CS "settled_row" ["self","place"] uy)(cy:Ut P w K mg base)(bT:UN P w K mg base)(clR:Cls K CR)(clS:Cls K CS)(nSp:zI K CR "span")(nT:zI K CS "taken"):yA P w K mg base 9 "reached" ["machine"] (ug CS):=yA.mk (k:=8) (N:=["machine","span","places","shares","first","steps","last"]) (m:=1) (b:=zbb CS) h jM (um1 λ_ _ _ _ _ _ _=>rfl) rfl (λf cdv A outer s H E hr=>
  (zfW 1 jM.nd (zmk clR nSp (zjZ cx hr rfl (za (ze 0) zh)))
   (zK (zhU (zco (VV clS mF hr)) (xl (wV (FE.ge (ze 0)))) Vv)
   (zK (UZ 2 jM.nd (GL.ge (zgG rfl (nbg NB) (vf clS nT))))
   (zK (UZ 3 jM.nd (GL.ge (zi8 0 (Ts:=["place"]) (F:=[1]) rfl (FIB.gib (yn (qv 2))) (csx (sc:=zc va)) (xE rfl rfl xG) rfl (fgc 0) (λ_ _ _ _ _=>zjw clS mS hr (uK (FE.gj (ze 0)) zfx)))))
   (zK (UZ 4 jM.nd (FE.ge (zQ zx yh rfl (nbg NB) zZ (zk (FL.fb (yf (Ts:=["place"]) (F:=[0]) rfl (yn (qv 2)) (csx (sc:=zc va)) (xE rfl rfl xG) (fgc 0) (λ_ _ _ _ _=>(zu (FE.fb (zu (qv 1) qi (λ_ _=>rfl))) (qv 0) (λ_ _=>rfl))))) zt))))
   (zK (UZ 5 jM.nd (FE.ge (zQ zx yh rfl (nbg NB) zZ (zk (FL.fb (yf (Ts:=["step"]) (F:=[2,3]) rfl (yn (FE.fb (zu (qv 0) qi (λ_ _=>rfl)))) (csx (sc:=zc va)) (xE rfl rfl (xE rfl rfl xG)) (fgc 0) (λ_ _ _ _ _=>(zo cy hr rfl (za (ze 0) (za (ze 1) (za (ze 2) zh))))))) zt))))
   (zK (UZ 6 jM.nd (FE.ge (zQ zx yh rfl (nbg NB) zZ (zk (FL.fb (yf (Ts:=["share"]) (F:=[0]) rfl (yn (qv 3)) (csx (sc:=zc va)) (xE rfl rfl xG) (fgc 0) (λ_ _ _ _ _=>(zo bT hr rfl (za (ze 0) (za (zu (qv 1) qi (λ_ _=>rfl)) zh)))))) zt))))
   (xl (wV (FE.ge (yC (za (ze 4) (za (ze 5) (za (ze 6) zh)))))))))))))))
def Zz(h:HasDef K mg "turned_step" vm)(NB:NBP P w base mg)(bI:VM P w K mg base):Uo P w K mg base:=yA.mk (N:=["step"]) (m:=1) (b:=Uj) h ZY (um1 λ_ _ _ _ _ _ _=>rfl) rfl (λf cdv A outer s H E hr=> 
  (zl (zO (zQ zx yh rfl (nbg NB) zZ (zk (FL.fb (yf (Ts:=["room"]) (F:=[0]) rfl (FI.fib (yG rfl (nbg NB) (za (zT zy xm rfl (nbg NB) yD (zk (qv 0) zt)) zh))) (csx (sc:=zc vm)) (xE rfl rfl xG) (fgc 0) (λ_ _ _ _ _=>(zo bI hr rfl (za (ze 1) (za (ze 0) zh)))))) zt)))))
def zgc(h:HasDef K mg "turned" VD)(NB:NBP P w base mg)(cz:Uo P w K mg base):zdP P w K mg base:=yA.mk (N:=["machine"]) (m:=1) (b:=zdm) h zgz (um1 λ_ _ _ _ _ _ _=>rfl) rfl (λf cdv A outer s H E hr=> 
  (zl (zO (yC (za (zu (qv 0) qi) (za (zQ zx yh rfl (nbg NB) zZ (zk (FL.fb (yf (Ts:=["step"]) (F:=[]) rfl (yn (FE.fb (zu (qv 0) qi))) (csx (sc:=zc VD)) xG (fgc 0) (λ_ _ _ _ _=>(zo cz hr rfl (za (ze 0) zh))))) zt)) (za (zu (qv 0) qi) zh)))))))
def zdO(h:HasDef K mg "smallest" U1)(NB:NBP P w base mg)(b6:yA P w K mg base 9 "reached" ["machine"] (ug CS))(b7:zdP P w K mg base):yA P w K mg base 10 "smallest" ["machine"] (xV CS):=yA.mk (N:=["machine"]) (m:=1) (b:=YS CS) h zd0 (um1 λ_ _ _ _ _ _ _=>rfl) rfl (λf cdv A outer s H E hr=> 
  (zl (zO (zo b7 hr rfl (za (zo b6 hr rfl (za (zo b7 hr rfl (za (zo b6 hr rfl (za (ze 0) zh)) zh)) zh)) zh)))))
def zjm(h:HasDef K mg "rank" zeQ)(NB:NBP P w base mg)(bU:yA P w K mg base 10 "smallest" ["machine"] (xV CS)):yA P w K mg base 11 "rank" ["machine"] (Jz CS):=yA.mk (N:=["machine"]) (m:=1) (b:=zhT CS) h zjS (um1 λ_ _ _ _ _ _ _=>rfl) rfl (λf cdv A outer s H E hr=> 
  (zl (zO (zT zy xm rfl (nbg NB) yD (zk (FE.fb (zu (FE.fb (zo bU hr rfl (za (ze 0) zh))) qi)) zt)))))
def zbQ(h:HasDef K mg "_law_whole" JE)(NB:NBP P w base mg):Yd P w K mg base:=yA.mk (N:=["found"]) (m:=1) (b:=Yi) h zbT (um1 λ_ _ _ _ _ _ _=>rfl) rfl (λf cdv A outer s H E hr=> 
  (zl (zO (zhs (zeM (qv 0) rfl (nbg NB) rfl (nbg NB) zmp) (zh4 (zms (zeM (qv 0) rfl (nbg NB) rfl (nbg NB) zjB)))))))
def zl6{f:AdX}{fd:FuncData}(F:Fun K "law" "law" zab f fd)(NB:NBP P w base mg)(bK:Um P w K mg base)(bP:w9 P w K mg base)(cA:za0 P w K mg base)(cB:zag P w K mg base)(bV:V1 P w K mg base)(cC:yA P w K mg base 9 "parting" ["one","other"] (J7 CS))(cD:yA P w K mg base 9 "rows_for" ["one","other"] (we CS))(cE:W3 P w K mg base)(bW:yA P w K mg base 11 "rank" ["machine"] (Jz CS))(cF:Yd P w K mg base)(bU:yA P w K mg base 10 "smallest" ["machine"] (xV CS)):v7 P w K mg base CX0 12 f fd ["script"] (spF K (zk6 CS)):=FnF.mk (N:=["script","signs","one","other","word","rows","less"]) (m:=1) (b:=zk8 CS) F U0 rfl (λcdv A outer s H E hr=> 
  (zi (zJ 1 U0.nd (zC jJ jI qi (FE.fb (zC xH ju (FE.fb (zo bK hr rfl (za (ze 0) (za ye zh)))) qi))))
   (zi (zJ 2 U0.nd (zo bP hr rfl (za (zo bK hr rfl (za (ze 0) (za ye zh))) (za (zC xH ju (FE.fb (zC yW xr (FE.fb (zo bK hr rfl (za (ze 0) (za ye zh)))) qi)) qi) (za (ze 1) zh)))))
   (zi (zJ 3 U0.nd (zo cA hr rfl (za (ze 2) (za (zo bK hr rfl (za (ze 0) (za ye zh))) (za (zC xH ju (FE.fb (zC yW xr (FE.fb (zo bK hr rfl (za (ze 0) (za ye zh)))) qi)) qi) zh)))))
   (zi (zJ 4 U0.nd (zo cB hr rfl (za (zo bK hr rfl (za (ze 0) (za ye zh))) (za (ze 1) (za ye zh)))))
   (zi (j6 (FW.ft (zh2 (yQ (wk hr.units) JR (FE.fb (zo bV hr rfl (za (ze 2) (za (ze 4) zh)))) (FE.fb (zo bV hr rfl (za (ze 3) (za (ze 4) zh)))) (nomark _)) (zez (yQ YG Vw (FE.fb (zo cC hr rfl (za (ze 2) (za (ze 3) zh)))) (FE.fb Wj) (nomark _))))) (zl (zO V4)) xv)
   (zi (zJ 5 U0.nd (zo cD hr rfl (za (ze 2) (za (ze 3) zh))))
   (zi (j6 (FW.ft (zh2 (zaa (Y6 (zeM (qv 5) rfl (nbg NB) rfl (nbg NB) wq))) (zez (zaa (Y6 (zo cE hr rfl (za (ze 2) (za (ze 3) (za (ze 5) zh))))))))) (zl (zO V4)) xv)
   (zi (j6 (FW.ft (zh2 (yQ (wk hr.units) JR (FE.fb (zo bW hr rfl (za (ze 2) zh))) (FE.fb (zo bW hr rfl (za (ze 3) zh))) (nomark _)) (zez (zaa (Y6 (zo cF hr rfl (za (zo bW hr rfl (za (ze 2) zh)) zh))))))) (zl (zO V4)) xv)
   (zi (zJ 6 U0.nd (zo bU hr rfl (za (ze 3) zh)))
   (zl (zO (zhs (zbW (wQ hr.units) Uu (FE.fb (zT zy xm rfl (nbg NB) yD (zk (FE.fb (zu (qv 6) qi)) zt))) (FE.fb (zo bW hr rfl (za (ze 2) zh))) (nomark _)) (zh4 (zbW (wQ hr.units) Uu (FE.fb (zo bV hr rfl (za (ze 6) (za (ze 4) zh)))) (FE.fb (zo bV hr rfl (za (ze 2) (za (ze 4) zh)))) (nomark _))))))))))))))))
end
end K11
namespace K11
open PySem L2 L2.Fu
abbrev NI(K:FRx)(x:Str)(f:AdX):Prop:=W.nsIn K mainGlobals x=some (some (.ref f))
abbrev LK(K:FRx)(f:AdX)(x q:Str)(st:Stmt)(oc:Value)(od:Option Addr)(kV dc pm:Value)(an:Option Addr)(cd ct:Value)(sl:Array (Option Value)):Prop:=K.lookup f=some ⟨oc,od,.func (W.fnOf x q (jm st) (yK st) (zc st) .none kV dc pm an cd ct),sl⟩
abbrev CI(K:FRx)(c:Value)(x:Str):Prop:=W.codeIn K c x=true
abbrev KI(K:FRx)(f:AdX):Prop:=W.keepIn K (.ref f)=true
abbrev FI0(K:FRx)(C:AdX)(x:Str):Prop:=W.findIn K (.ref C) x=some none
abbrev HD(K:FRx)(x:Str)(st:Stmt):Prop:=∃f oc od kV dc pm an cd ct sl,NI K x f/\LK K f x x st oc od kV dc pm an cd ct sl/\CI K cd x/\KI K f
abbrev MD(K:FRx)(C:AdX)(m q:Str)(st:Stmt):Prop:=∃f oc od kV dc pm an cd ct sl,W.findIn K (.ref C) m=some (some (.ref f))/\W.isFn K (.ref f)=true/\LK K f m q st oc od kV dc pm an cd ct sl/\CI K cd q/\KI K f
def hdef{K:FRx}{h:Heap}{mg:Str->Option Value}{x:Str}{st:Stmt}(X:K.In h)(G:h.Ns mainGlobals mg)(a:HD K x st):HasDef K mg x st:=by
 obtain⟨_,_,_,_,_,_,_,_,_,_,a,l,c,k⟩:=a;exact⟨_,_,zb8 (st:=st) l c k,W.mg_of X G a⟩
def hmeth{K:FRx}{C:AdX}{m q:Str}{st:Stmt}(a:MD K C m q st):vL K C m q st:=by
 obtain⟨_,_,_,_,_,_,_,_,_,_,a,i,l,c,k⟩:=a;exact⟨_,_,zb8 (st:=st) l c k,⟨a,i,k⟩⟩
def hini{K:FRx}{h:Heap}{mg:Str->Option Value}{C:AdX}{n q:Str}{st:Stmt}(X:K.In h)(G:h.Ns mainGlobals mg)(a:MD K C "__init__" q st)(aC:W.nsIn K mainGlobals n=some (some (.ref C)))(mk:W.makesIn K C=true)(kc:W.keepIn K (.ref C)=true):Yy K mg C n "__init__" q st:=by
 obtain⟨_,_,_,_,_,_,_,_,_,_,a,i,l,c,k⟩:=a;exact⟨_,_,zb8 (st:=st) l c k,⟨mk,a,i,kc⟩,W.mg_of X G aC⟩
def znr{K:FRx}{x:Str}{st:Stmt}{f:AdX}{oc kV dc pm cd ct:Value}{od an:Option Addr}{sl:Array (Option Value)}(a:NI K x f)(l:LK K f x x st oc od kV dc pm an cd ct sl)(c:CI K cd x)(k:KI K f):HD K x st:=⟨f,oc,od,kV,dc,pm,an,cd,ct,sl,a,l,c,k⟩
def zne{K:FRx}{C:AdX}{m q:Str}{st:Stmt}{f:AdX}{oc kV dc pm cd ct:Value}{od an:Option Addr}{sl:Array (Option Value)}(a:W.findIn K (.ref C) m=some (some (.ref f)))(i:W.isFn K (.ref f)=true)(l:LK K f m q st oc od kV dc pm an cd ct sl)(c:CI K cd q)(k:KI K f):MD K C m q st:=⟨f,oc,od,kV,dc,pm,an,cd,ct,sl,a,i,l,c,k⟩
def zjz(K:FRx)(l:LSr):Prop:=∀x∈l,W.nsIn K mainGlobals x=some none
def ziM{K:FRx}:zjz K []:=λ_ h=>by cases h
def zgC{K:FRx}{x:Str}{l:LSr}(h:W.nsIn K mainGlobals x=some none)(r:zjz K l):zjz K (x::l):=λy hy=>by
 rcases qx.mp hy with rfl|hy
 ·exact h
 ·exact r y hy
def all_mk{l:W.OpenLaw}{w:World}{K:FRx}{h:Heap}{mg:Str->Option Value}{fa CS CR:AdX}(X:K.In h)(G:h.Ns mainGlobals mg)(hfa:mg "law"=some (.ref fa))(a1:HD K "_law_cell_at" wZ)(a2:HD K "_law_low" Wi)(a3:HD K "_law_fraction" wc)(a4:HD K "_law_machine" wU)(a5:HD K "_law_beside" xT)(a6:HD K "_law_times" JS)(a7:HD K "_law_plus" UW)(a8:HD K "_law_turned_row" vg)(a9:HD K "_law_mixed" jO)(a10:HD K "_law_kin" J6)(a11:HD K "_law_word" UJ)(a12:HD K "_law_dot" Wv)(a13:HD K "_law_led" J0)(a14:HD K "_law_row" WX)(a15:HD K "_law_weight" u9)(a16:HD K "refuse_unlike" vE)(a17:HD K "common_divisor" vc)(a18:HD K "lowest" ZV)(a19:HD K "times" zca)(a20:HD K "scaled_row" vI)(a21:HD K "noughts" Wr)(a22:HD K "joined_step" jv)(a23:HD K "added_step" uL)(a24:HD K "beside" VB)(a25:HD K "difference" uW)(a26:HD K "shared_bottom" vB)(a27:HD K "tops_over" wH)(a28:HD K "without_common" jq)(a29:HD K "whole_row" JN)(a30:HD K "whole_pair_sum" jk)(a31:HD K "column" Vp)(a32:HD K "whole_step" vG)(a33:HD K "unit_row" U9)(a34:HD K "narrowed" Jc)(a35:HD K "led_on" Vm)(a36:HD K "compared" U7)(a37:HD K "parting" Wo)(a38:HD K "rows_for" uT)(a39:HD K "_law_both" uN)(a40:HD K "_law_over" UQ)(a41:HD K "_law_rank" vd)(a42:HD K "_law_in_span" vj)(a43:HD K "_law_shown" wo)(a44:HD K "pair_sum" UE)(a45:HD K "shared_step" jz)(a46:HD K "reached" va)(a47:HD K "turned_step" vm)(a48:HD K "turned" VD)(a49:HD K "smallest" U1)(a50:HD K "rank" zeQ)(a51:HD K "_law_whole" JE)(a52:HD K "whole_reach" uc)(a53:HD K "law" zab)(aCS:W.nsIn K mainGlobals "Span"=some (some (.ref CS)))(pgS:W.plainGet K CS Str.empty=true)(hdS:W.hasDictIn K CS=true)(poS:W.plainOver K CS=true)(saS:W.findIn K (.ref CS) "__setattr__"=some (some (.builtin "object.__setattr__")))(mkS:W.makesIn K CS=true)(kcS:W.keepIn K (.ref CS)=true)(nS_free:FI0 K CS "free")(nS_taken:FI0 K CS "taken")(nS_checks:FI0 K CS "checks")(nS_pivot:FI0 K CS "pivot")(aCR:W.nsIn K mainGlobals "Reach"=some (some (.ref CR)))(pgR:W.plainGet K CR Str.empty=true)(hdR:W.hasDictIn K CR=true)(poR:W.plainOver K CR=true)(saR:W.findIn K (.ref CR) "__setattr__"=some (some (.builtin "object.__setattr__")))(mkR:W.makesIn K CR=true)(kcR:W.keepIn K (.ref CR)=true)(nR_steps:FI0 K CR "steps")(nR_span:FI0 K CR "span")(nR_words:FI0 K CR "words")(nR_rows:FI0 K CR "rows")(nR_waiting:FI0 K CR "waiting")(nR_asked:FI0 K CR "asked")(m1:MD K CS "__init__" "Span.__init__" YA)(m2:MD K CS "full" "Span.full" zeY)(m3:MD K CS "take" "Span.take" W0)(m4:MD K CR "__init__" "Reach.__init__" YF)(m5:MD K CR "onward" "Reach.onward" Zf)(m6:MD K CR "row_led_on" "Reach.row_led_on" ziO)(m7:MD K CR "keep" "Reach.keep" zeX)(m8:MD K CS "settled_row" "Span.settled_row" WB)(zs:zjz K blts){gt1_0 gt1_1:Tok}{ga1:AdX}{gd1:Option Addr}{gn1:Nat}{gs1:Array (Option Value)}(g_1:W.nsIn K mainGlobals "NOUGHT"=some (some (.ref ga1)))(gl1:K.lookup ga1=some ⟨.type "tuple",gd1,.seq #[.int 0 gt1_0,.int 1 gt1_1] gn1,gs1⟩){gt2_0 gt2_1:Tok}{ga2:AdX}{gd2:Option Addr}{gn2:Nat}{gs2:Array (Option Value)}(g_2:W.nsIn K mainGlobals "MINUS_ONE"=some (some (.ref ga2)))(gl2:K.lookup ga2=some ⟨.type "tuple",gd2,.seq #[.int (-1) gt2_0,.int 1 gt2_1] gn2,gs2⟩){gt3_0 gt3_1:Tok}{ga3:AdX}{gd3:Option Addr}{gn3:Nat}{gs3:Array (Option Value)}(g_3:W.nsIn K mainGlobals "ONE"=some (some (.ref ga3)))(gl3:K.lookup ga3=some ⟨.type "tuple",gd3,.seq #[.int 1 gt3_0,.int 1 gt3_1] gn3,gs3⟩)
  :∃fd:FuncData,(∀(s:ShX)(v:Value),BindsTo s fd ⟨[v],[]⟩ [("script",v)])/\∀base:Heap,K.In base->base.Ns mainGlobals mg->v7 l.prog w K mg base CX0 12 fa fd ["script"] (zfG K):=by
 have⟨_,_,_,kV,dc,pm,an,cd,ct,_,aL,lL,cL,kL⟩:=a53;have e:=hfa.symm.trans (W.mg_of X G aL);cases e;have c_NOUGHT:GC K mg "NOUGHT" (.tuple [.int 0,.int 1]):=zbU (W.mg_of X G g_1) gl1
 have c_MINUS_ONE:GC K mg "MINUS_ONE" (.tuple [.int (-1),.int 1]):=zbU (W.mg_of X G g_2) gl2;have c_ONE:GC K mg "ONE" (.tuple [.int 1,.int 1]):=zbU (W.mg_of X G g_3) gl3
 have clS:Cls K CS:=⟨pgS,hdS,poS,saS⟩;have clR:Cls K CR:=⟨pgR,hdR,poR,saR⟩
 refine⟨W.fnOf "law" "law" (jm zab) (yK zab) (zc zab) .none kV dc pm an cd ct,λs v=>.of_eq rfl,λbase _ _=>?_⟩;have NB:NBP l.prog w base mg:=λx hx=>W.mg_none_of X G (zs x hx)
 have bK:=Zc (hdef X G a1) NB ;have bF:=zd9 (hdef X G a2) NB
 have bO:=Yv (hdef X G a3) NB bF;have bP:=Zn (hdef X G a4) NB bO
 have bM:=zak (hdef X G a5) NB ;have bz:=zcc (hdef X G a6) NB bF
 have bA:=zcH (hdef X G a7) NB bF;have bX:=VS (hdef X G a8) NB bz bA
 have cb:=zbP (hdef X G a9) NB bX bz bA;have cA:=zeW (hdef X G a10) NB bP bM bO cb
 have cB:=zdX (hdef X G a11) NB ;have bG:=zeB (hdef X G a12) NB bz bA
 have bQ:=zeP (hdef X G a13) NB bG;have cc:=zeJ (hdef X G a14) NB bQ
 have bV:=zaz (hdef X G a15) NB cc bG;have cn:=Wz (hdef X G a16) NB
 have bH:=VF (hdef X G a17) NB ;have bE:=zg6 (hdef X G a18) NB bH
 have cj:=ziB (hdef X G a19) NB bE;have cq:=zao (hdef X G a20) NB cj
 have bR:=zeI (hdef X G a21) NB c_NOUGHT;have ck:=YM (hdef X G a22) NB bR
 have cm:=zat (hdef X G a23) NB bR ck;have cu:=zg2 (hdef X G a24) NB cm
 have b9:=zam (hdef X G a25) NB c_MINUS_ONE cn cq cu;have bC:=Wy (hdef X G a26) NB bH
 have bD:=zbL (hdef X G a27) NB ;have bZ:=Wa (hdef X G a28) NB bH
 have bY:=zbw (hdef X G a29) NB bC bD bZ;have bJ:=VE (hdef X G a30) NB
 have bI:=zgk (hdef X G a31) NB ;have cN:=zau (hdef X G a32) NB bC bI bD
 have cO:=zcV (hdef X G a33) NB ;have cP:=zdd (hdef X G a34) NB
 have cQ:=zgh (hdef X G a35) NB bJ;have iS:=zmu (hini X G m1 aCS mkS kcS) NB clS nS_free nS_taken nS_checks nS_pivot cO
 have mF:=zl1 (P:=l.prog) (w:=w) (base:=base) (mg:=mg) (hmeth m2) clS nS_free;have mT:=zmz (hmeth m3) NB clS nS_free nS_taken nS_checks nS_pivot bJ cP
 have mL:=zmO (hmeth m6) clR nR_steps bZ cQ;have mK:=zmn (hmeth m7) NB clR nR_words nR_rows nR_steps nR_waiting
 have mO:=ziC (hmeth m5) NB clR clS nR_asked nR_waiting nR_span mF mT mK mL;have iR:=zkh (hini X G m4 aCR mkR kcR) NB clR nR_steps nR_span nR_words nR_rows nR_waiting nR_asked cN bY iS
 have bS:=zds (hdef X G a36) b9 bY bJ iR mO clR nR_words nR_rows;have cC:=zee (hdef X G a37) NB bS
 have cD:=zdE (hdef X G a38) NB bS;have cw:=zd5 (hdef X G a39) NB bM
 have cv:=zc0 (hdef X G a40) NB ;have b4:=zcQ (hdef X G a41) NB cv bz bA
 have b5:=Zj (hdef X G a42) NB b4;have cE:=zbS (hdef X G a43) NB cw b5 bG bQ
 have bT:=zdb (hdef X G a44) NB bC bD bJ bE;have cy:=Zq (hdef X G a45) NB bI bT
 have mS:=zgp (hmeth m8) NB clS nS_free nS_taken nS_checks nS_pivot c_NOUGHT c_ONE bE;have cx:=Z9 (hdef X G a52) iR mO clR
 have b6:=zem NB (hdef X G a46) cx mF mS cy bT clR clS nR_span nS_taken;have cz:=Zz (hdef X G a47) NB bI
 have b7:=zgc (hdef X G a48) NB cz;have bU:=zdO (hdef X G a49) NB b6 b7
 have bW:=zjm (hdef X G a50) NB bU;have cF:=zbQ (hdef X G a51) NB
 exact zkb (λns _=>zlm _ ns) (zl6 (zb8 (st:=zab) lL cL kL) NB bK bP cA cB bV cC cD cE bW cF bU)
def walk{l:W.OpenLaw}{q:Program}{loose:LSr}{XP:(Str->Option Value)->Heap->Prop}{YP:World->Heap->Prop}{d:DefRec}{K:Params->W.Frag}(hn:l.most=some 63)(hdf:d.params.defaults=[])(hY:∀(w:World)(h:Heap),YP w h->(K w.params).In h)(F:∀(w:World)(mg:Str->Option Value)(fa:AdX)(h:Heap),(K w.params).In h->h.Ns mainGlobals mg->mg d.name=some (.ref fa)->
   ∃fd:FuncData,(∀(s:ShX)(u:Value),BindsTo s fd ⟨[u],[]⟩ [("script",u)])/\∀base:Heap,(K w.params).In base->base.Ns mainGlobals mg->v7 l.prog w (K w.params) mg base CX0 12 fa fd ["script"] (zfG (K w.params))):W.WalkO q loose XP YP l.row.toRowW d [] (λf vs=>PySem.call f vs):=L2.zju (n:=63) (k:=12) (x:="script") (CX:=λ_=>CX0) (sp:=λw=>zfG (K w.params)) hn (by decide) hdf ⟨rfl,by decide,by decide⟩ hY F (λ_ _ a ns hl _ hS=>⟨a,ns,rfl,hS,hl,λ_=>rfl⟩) λ_ _ _ _ _ z=>z
end K11
open PySem PySem.W PyProof.Rows
namespace PySem.W.Fast
def tw10206812780048626010:=0
def tw18446709756172641092:=0
def tw17163539007163755814:=0
def tw14992728226246927451:=0
def tw14022149027715898402:=0
def tw13087196967021093434:=0
def tw10968330320159153293:=0
def tw1852997547678512946:=0
def tw12991175168542261413:=0
def tw1591418537145340723:=0
def tw1666118919907676397:=0
def tw15168972234988526364:=0
def tw13208210387168654265:=0
def tw1358242069825401681:=0
def tw11731527852656386024:=0
def tw6199861224758278305:=0
def tw7385800920934389827:=0
def tw6743056333605162230:=0
def tw11878721718717527606:=0
def tw3012504501432790462:=0
def tw7889693132100688320:=0
def tw4389013811692377514:=0
end PySem.W.Fast
set_option maxRecDepth 100000 in
set_option maxHeartbeats 0 in
theorem PySem.Challenge.cw_wordscales_k11_whole_other_numbers_same_holds : PySem.Challenge.rw_wordscales_k11_whole_other_numbers_same.Holds := by
 w_on;o_law;k_head;(case hw=>w_witness2)
 k_fill
 refine K11.walk (l:=PySem.Challenge.rw_wordscales_k11_whole_other_numbers_same) rfl rfl (λw h Y=>PySem.W.kIn_of Y) ?F;case F=>
  intro w mg fa h KX G hmg;refine' K11.all_mk KX G hmg ?a1 ?a2 ?a3 ?a4 ?a5 ?a6 ?a7 ?a8 ?a9 ?a10 ?a11 ?a12 ?a13 ?a14 ?a15 ?a16 ?a17 ?a18 ?a19 ?a20 ?a21 ?a22 ?a23 ?a24 ?a25 ?a26 ?a27 ?a28 ?a29 ?a30 ?a31 ?a32 ?a33 ?a34 ?a35 ?a36 ?a37 ?a38 ?a39 ?a40 ?a41 ?a42 ?a43 ?a44 ?a45 ?a46 ?a47 ?a48 ?a49 ?a50 ?a51 ?a52 ?a53 ?aCS ?pgS ?hdS ?poS ?saS ?mkS ?kcS ?nS_free ?nS_taken ?nS_checks ?nS_pivot ?aCR ?pgR ?hdR ?poR ?saR ?mkR ?kcR ?nR_steps ?nR_span ?nR_words ?nR_rows ?nR_waiting ?nR_asked ?m1 ?m2 ?m3 ?m4 ?m5 ?m6 ?m7 ?m8 ?zs ?g_1 ?gl1 ?g_2 ?gl2 ?g_3 ?gl3;case a1|a2|a3|a4|a5|a6|a7|a8|a9|a10|a11|a12|a13|a14|a15|a16|a17|a18|a19|a20|a21|a22|a23|a24|a25|a26|a27|a28|a29|a30|a31|a32|a33|a34|a35|a36|a37|a38|a39|a40|a41|a42|a43|a44|a45|a46|a47|a48|a49|a50|a51|a52|a53=>
   refine' K11.znr ?a ?l ?c ?k;case a=>delta K11.NI;k_is
   case l=>delta K11.LK;k_is
   case c=>delta K11.CI;k_is
   case k=>delta K11.KI;k_is
  case aCS|pgS|hdS|poS|saS|mkS|kcS|aCR|pgR|hdR|poR|saR|mkR|kcR|g_1|gl1|g_2|gl2|g_3|gl3=>k_is
  case nS_free|nS_taken|nS_checks|nS_pivot|nR_steps|nR_span|nR_words|nR_rows|nR_waiting|nR_asked=>delta K11.FI0;k_is
  case m1|m2|m3|m4|m5|m6|m7|m8=>
   refine' K11.zne ?a ?i ?l ?c ?k;case a=>k_is
   case i=>k_is
   case l=>delta K11.LK;k_is
   case c=>delta K11.CI;k_is
   case k=>delta K11.KI;k_is
  case zs=>
   repeat (refine K11.zgC (by k_is) ?_)
   exact K11.ziM
#print axioms PySem.Challenge.cw_wordscales_k11_whole_other_numbers_same_holds
