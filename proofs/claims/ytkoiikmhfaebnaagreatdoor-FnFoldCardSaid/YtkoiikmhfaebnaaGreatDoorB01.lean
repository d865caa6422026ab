import Derived.Lib.ParseIntB
import Derived.WalkKit
import Derived.WalkSpells
import Derived.WalkLawsBesides
import Derived.Deep.DeepFit
import Derived.Deep.DeepMust
import Derived.Lib.Strings
import Derived.Maps.AppendAt
import Derived.Test.YtkoiikmhfaebnaaGreatDoorProg
import Derived.Deep.QuietTactic
import Derived.BigQuiet
import Derived.Deep.RegionWith
set_option maxHeartbeats 4000000
set_option maxRecDepth 100000
namespace Go.Proofs.YtkoiikmhfaebnaaGreatDoor
open Tryz Go.RowKit
abbrev BL(w w':World):Prop:=Below w.heap.size w w'
abbrev X2:=@if_neg
abbrev X3:=@if_pos
abbrev X4:=@Nat.le_refl
abbrev X5:=@Below.refl
abbrev X6:=@Nat.zero_le
abbrev X7:=@bodyPost_ret
abbrev Xb:=@World.size_alloc
abbrev Xd:=@Nat.lt_of_lt_of_le
abbrev Xn:=@Nat.zero_add
abbrev Xo:=@List.length_append
abbrev Xu:=@List.map_cons
abbrev Xy:=@World.cell?_of_block
abbrev XD:=@Bool.and_eq_true
abbrev XI:=@Nat.lt_succ_self
abbrev XO:=@Nat.le_trans
abbrev XR:=@List.getElem_mem
abbrev XV:=@World.ownsRow_lit
abbrev Y4:=@Below.heap_setCell
abbrev Y5:=@Bool.eq_iff_iff
abbrev Y6:=@List.mem_cons
abbrev Ya:=@List.length_cons
abbrev Yb:=@decide_eq_false
abbrev Yc:=@List.map_nil
abbrev Yf:=@results_none
abbrev Yg:=@wpList_append_own_at
abbrev Yk:=@info_parts
abbrev Yt:=@IntKind.wrap_i64
abbrev Yu:=@List.drop_of_length_le
abbrev YA:=@List.length_drop
abbrev YC:=@Nat.le_of_ble_eq_true
abbrev YD:=@Option.some.inj
abbrev YH:=@List.getElem?_eq_getElem
abbrev YJ:=@decide_eq_true
abbrev YM:=@List.length_take
abbrev Z9:=@List.length_map
abbrev Zd:=@congrArg
abbrev Zj:=@Result.andThen_ok
abbrev Zk:=@Sem.run_bind
abbrev Zp:=@List.drop_eq_getElem_cons
abbrev Zq:=@List.mem_map
abbrev Zs:=@World.cell?_setCell_other
abbrev Zy:=@or_false
abbrev ZA:=@List.not_mem_nil
abbrev ZI:=@List.foldl_cons
abbrev ZJ:=@World.ownsRow_nil
abbrev ZN:=@List.length_nil
abbrev ZO:=@List.map_append
abbrev ZP:=@Option.some.injEq
abbrev K6:=@List.getElem?_append_right
abbrev K7:=@List.mem_append
abbrev Kh:=@Array.getElem?_eq_some_iff
abbrev Kt:=@List.take_succ_eq_append_getElem
abbrev KO:=@List.getElem?_cons_zero
abbrev KP:=@List.map_toArray
abbrev KQ:=@List.mem_of_mem_drop
abbrev KU:=@World.frozen?_of_block
abbrev Q7:=@List.getElem?_cons_succ
abbrev Q8:=@List.getElem?_toArray
abbrev Qm:=@List.drop_zero
abbrev Qr:=@decide_eq_true_iff
abbrev QB:=@List.map_drop
abbrev QL:=@Nat.min_eq_left
abbrev QM:=@Sem.run_pure
abbrev QR:=@of_decide_eq_true
abbrev QY:=@List.getElem?_append_left
abbrev QZ:=@List.mem_singleton
abbrev J0:=@Nat.lt_or_ge
abbrev J1:=@World.block_lt_of_cell?
abbrev J2:=@if_true
abbrev J7:=@List.map_take
abbrev Jo:=@List.append_assoc
abbrev JA:=@ByteArray.size_append
abbrev JC:=@List.eq_nil_of_length_eq_zero
abbrev JD:=@List.getElem?_eq_none
abbrev JE:=@List.length_singleton
abbrev JF:=@List.map_congr_left
abbrev JG:=@List.take_length
abbrev JM:=@World.cell?_setCell_same
abbrev JN:=@World.ownsRow.cells
abbrev JP:=@beq_iff_eq
abbrev JR:=@if_false
abbrev U3:=@Array.getElem?_eq_none
abbrev U7:=@List.take_of_length_le
abbrev U8:=@Nat.not_lt_zero
abbrev UA:=@List.flatten_append
abbrev UC:=@List.mem_of_mem_take
abbrev UD:=@List.nil_append
abbrev UE:=@List.take_succ_cons
abbrev UF:=@Nat.le_succ
abbrev Ve:=@List.drop_succ_cons
abbrev Vf:=@List.getElem?_map
abbrev Vg:=@List.getElem_append_left
abbrev Vh:=@List.take_append_drop
abbrev Vi:=@Option.map_some
abbrev VN:=@Below.setCell
abbrev VO:=@Bool.true_and
abbrev VP:=@ByteArray.toList_eq
abbrev VS:=@List.append_nil
abbrev VV:=@Nat.add_comm
abbrev Wk:=@run_program
abbrev Ww:=@Array.toList_inj
abbrev Wx:=@ByteArray.ext
abbrev Wz:=@List.map_map
abbrev WA:=@Nat.add_zero
abbrev WB:=@Nat.mod_lt
abbrev WC:=@Nat.sub_self
abbrev WD:=@Option.getD_some
abbrev Dt:=@Array.getElem?_eq_getElem
abbrev Du:=@Bool.false_eq_true
abbrev Dv:=@Classical.byContradiction
abbrev Dw:=@Int.tmod_eq_emod_of_nonneg
abbrev Dz:=@Lib.toList_data
abbrev DA:=@List.length_set
abbrev DB:=@List.map_id
abbrev DC:=@List.mem_cons_of_mem
abbrev DE:=@List.mem_range
abbrev DF:=@List.takeWhile_cons
abbrev DG:=@Nat.add_mul
abbrev DH:=@Nat.mul_le_mul_right
abbrev DI:=@Nat.mul_one
abbrev DU:=@beq_eq_false_iff_ne
abbrev Gp:=@run_makeMap
abbrev Gq:=@run_underlying
abbrev GF:=@Array.getD_eq_getD_getElem?
abbrev GG:=@Array.getElem?_setIfInBounds
abbrev GH:=@Array.size_setIfInBounds
abbrev GJ:=@Below.drew
abbrev GK:=@Bool.false_and
abbrev GM:=@List.drop_drop
abbrev GO:=@List.flatMap_cons
abbrev GP:=@List.foldl_append
abbrev GQ:=@List.getElem?_eq_some_iff
abbrev GR:=@List.mem_flatMap
abbrev GS:=@Nat.le_of_lt
abbrev GU:=@Nat.lt_trans
abbrev GV:=@Nat.ne_of_lt
abbrev Ib:=@WideMaps.keyOf_string_mk
abbrev Ic:=@World.ownsMap_made
abbrev Ie:=@World.size_setCell
abbrev L7:=@size_madeCells
abbrev Le:=@true_and
abbrev Lr:=@List.getElem?_drop
abbrev Ls:=@List.getElem_cons_zero
abbrev Lt:=@List.set_cons_zero
abbrev Lu:=@List.take_take
abbrev Lv:=@Maps.atKey_put_other
abbrev Lx:=@Nat.add_sub_cancel
abbrev Ly:=@Nat.eq_zero_or_pos
abbrev Lz:=@Nat.not_lt
abbrev LA:=@Nat.one_mul
abbrev LM:=@World.frozen?_setCell
abbrev LP:=@and_assoc
abbrev LX:=@bne_iff_ne
abbrev M7:=@decide_eq_true_eq
abbrev MT:=@ownsRow_setCell_below
abbrev Ox:=@Array.getElem?_modify
abbrev Oy:=@Array.length_toList
abbrev OC:=@Bool.and_assoc
abbrev OD:=@Bool.false_or
abbrev OE:=@Bool.not_eq_true'
abbrev OF:=@Bool.or_eq_true
abbrev OL:=@Int.le_refl
abbrev OM:=@Int.mul_tdiv_add_tmod
abbrev ON:=@Int.natAbs_tdiv
abbrev OO:=@Int.tdiv_one
abbrev OS:=@List.all_eq_true
abbrev OU:=@List.cons_append
abbrev OV:=@List.flatMap_append
abbrev OW:=@List.getElem?_set_ne
abbrev OX:=@List.getElem?_set_self
abbrev OY:=@List.getElem?_take
abbrev OZ:=@List.getElem_of_mem
abbrev P0:=@List.getLast?_eq_getElem?
abbrev P1:=@List.length_eq_zero_iff
abbrev P2:=@List.mem_filter
abbrev P3:=@List.set_append_right
abbrev P4:=@List.take_zero
abbrev P5:=@Maps.atKey_put_same
abbrev P6:=@Nat.div_le_div_left
abbrev PM:=@decide_eq_decide
abbrev S8:=@run_append_own_at
abbrev SC:=@wpList_lookup_own_ok_int
abbrev SE:=@Array.all_eq_true'
abbrev SF:=@Array.mem_of_getElem?
abbrev SI:=@Int.emod_lt_of_pos
abbrev SJ:=@Int.tmod_nonneg
abbrev SK:=@Int.toNat_of_nonneg
abbrev SL:=@List.dropLast_cons_cons
abbrev SM:=@List.drop_eq_nil_iff
abbrev SN:=@List.flatMap_map
abbrev SO:=@List.flatten_cons
abbrev SQ:=@List.flatten_nil
abbrev SR:=@List.getElem?_replicate
abbrev SS:=@List.getElem_zip
abbrev SU:=@List.isPrefixOf_iff_prefix
abbrev SW:=@List.mem_cons_self
abbrev SX:=@List.mem_of_getElem?
abbrev SY:=@List.nodup_iff_pairwise_ne
abbrev SZ:=@List.pairwise_map
abbrev A0:=@List.set_cons_succ
abbrev A1:=@List.zip_cons_cons
abbrev A2:=@Nat.le_of_succ_le
abbrev A3:=@Nat.lt_of_le_of_lt
abbrev AA:=@UInt8.lt_irrefl
abbrev Eh:=@not_false_eq_true
abbrev FX:=@wpList_append_own
abbrev FY:=@wpList_mapUpdate_own
abbrev Hi:=@List.getLast?_eq_some_getLast
end Go.Proofs.YtkoiikmhfaebnaaGreatDoor
namespace Go.Proofs.YtkoiikmhfaebnaaGreatDoor.Sc
open Tryz
def dig(b:UInt8):Bool:=decide (48<=b.toNat/\b.toNat<=57)
def beg(b:UInt8):Bool:=decide ((97<=b.toNat/\b.toNat<=122)\/b.toNat=95)
def nm(b:UInt8):Bool:=beg b||dig b
def Qe(b:UInt8):Int:=if 48<=b.toNat/\b.toNat<=57 then(b.toNat:Int)-48 else if 97<=b.toNat/\b.toNat<=102 then(b.toNat:Int)-97+10 else -1
def Xz:Bool->List UInt8->Nat
 | _,[]=>0
 | false,b::r=>if b.toNat=35 then 1+Xz true r else if b.toNat=32\/b.toNat=10 then 1+Xz false r else 0
 | true,b::r=>if b.toNat=10 then 1+Xz false r else 1+Xz true r
def QQ(l:List UInt8):Nat:=l.foldl (fun a b=>a*10+(b.toNat-48)) 0
def unq:List UInt8->Option (List UInt8 × Nat)
 | []=>none
 | b::r=>
  if b.toNat=34 then some ([],1)
  else if b.toNat=92 then
   match r with
   | h::lo::r'=>if Qe h<0\/Qe lo<0 then none else(unq r').map fun p=>(UInt8.ofNat (16*Qe h+Qe lo).toNat::p.1,p.2+3)
   | _=>none
  else if b.toNat<32\/126<b.toNat then none
  else(unq r).map fun p=>(b::p.1,p.2+1)
def words:List (List UInt8):=[[97,110,100],[100,101,102],[101,108,115,101],[101,109,105,116],[102,97,108,115,101],[102,110],[102,111,114],[104,97,115],[105,102],[105,110],[108,101,116],[108,111,97,100],[110,111,110,101],[110,111,116],[111,114],[116,104,101,110],[116,114,117,101]]
def marks:List (List UInt8):=[[61,61],[33,61],[60,61],[62,61],[61,62],[40],[41],[91],[93],[123],[125],[44],[59],[58],[46],[61],[60],[62],[43],[45],[42],[47],[37]]
structure R where
 code:Nat
 kind:Nat
 text:List UInt8
 n:Nat
 size:Nat
def bad(c:Nat):R:=⟨c,0,[],0,0⟩
def Jj(l:List UInt8):R:=if(l.takeWhile nm).all dig=true/\QQ (l.takeWhile nm)<=9223372036854775807/\¬(l.head?=some 48/\1<(l.takeWhile nm).length)then⟨0,3,[],QQ (l.takeWhile nm),(l.takeWhile nm).length⟩else bad 3
def V3(l:List UInt8):R:=if(l.takeWhile nm)∈words then⟨0,2,l.takeWhile nm,0,(l.takeWhile nm).length⟩else if 30<(l.takeWhile nm).length then bad 5 else⟨0,1,l.takeWhile nm,0,(l.takeWhile nm).length⟩
def Gh(l:List UInt8):R:=
 match unq l.tail with
 | none=>bad 4
 | some p=>if 1000<p.1.length then bad 5 else⟨0,4,p.1,0,p.2+1⟩
def V2(l:List UInt8):R:=
 match marks.find? (fun m=>m.isPrefixOf l)with
 | none=>bad 2
 | some m=>⟨0,5,m,0,m.length⟩
def one(l:List UInt8):R:=
 match l with
 | []=>bad 2
 | b::_=>if dig b=true then Jj l else if beg b=true then V3 l else if b.toNat=34 then Gh l else V2 l
structure T where
 kind:Nat
 text:List UInt8
 n:Nat
 place:Nat
def scan:Nat->Nat->List UInt8->List T × Nat × Nat
 | 0,_,_=>([],0,0)
 | f+1,k,l=>
  if l.drop (Xz false l)=[]then([],0,0)
  else if(one (l.drop (Xz false l))).code≠0 then([],(one (l.drop (Xz false l))).code,k+Xz false l)
  else(⟨(one (l.drop (Xz false l))).kind,(one (l.drop (Xz false l))).text,(one (l.drop (Xz false l))).n,k+Xz false l⟩ ::
    (scan f (k+Xz false l+(one (l.drop (Xz false l))).size) ((l.drop (Xz false l)).drop (one (l.drop (Xz false l))).size)).1,
   (scan f (k+Xz false l+(one (l.drop (Xz false l))).size) ((l.drop (Xz false l)).drop (one (l.drop (Xz false l))).size)).2)
theorem drop_cons(s:ByteArray)(k:Nat)(h:k<s.size):s.data.toList.drop k=s[k]::s.data.toList.drop (k+1):=by
 rw[Zp (by simpa using h)];rfl
theorem Cc:∀(b:Bool) (l:List UInt8),Xz b l<=l.length:=by
 intro b l;induction l generalizing b with
 | nil=>simp[Xz]
 | cons x r a=>
  cases b<;>simp only[Xz,Ya]
  .split
   .have:=a true;omega
   .split
    .have:=a false;omega
    .omega
  .split
   .have:=a false;omega
   .have:=a true;omega
theorem Y3g(p:UInt8->Bool)(l:List UInt8):(l.takeWhile p).length<=l.length:=by
 induction l with
 | nil=>simp
 | cons x r a=>simp only[DF];split<;>simp<;>omega
theorem Oo:∀(l:List UInt8) (t:List UInt8) (n:Nat),unq l=some (t,n)->1<=n/\n<=l.length/\t.length<n
 | [],t,n,h=>by simp[unq]at h
 | b::r,t,n,h=>by
  unfold unq at h;split at h
  .simp at h;obtain⟨rfl,rfl⟩:=h;simp
  .split at h
   .match r,h with
    | [],h=>simp at h
    | [_],h=>simp at h
    | x::y::r',h=>
     simp only at h;split at h
     .simp at h
     .rw[Option.map_eq_some_iff]at h;obtain⟨p,c,a⟩:=h;simp at a;obtain⟨rfl,rfl⟩:=a;have:=Oo r' p.1 p.2 c;simp;omega
   .split at h
    .simp at h
    .rw[Option.map_eq_some_iff]at h;obtain⟨p,c,a⟩:=h;simp at a;obtain⟨rfl,rfl⟩:=a;have:=Oo r p.1 p.2 c;simp;omega
theorem E2:∀m∈marks,1<=m.length/\m.length<=2:=by decide
theorem MQ(l:List UInt8)(h:(one l).code=0):1<=(one l).size/\(one l).size<=l.length:=by
 unfold one at h⊢
 match l,h with
 | [],h=>simp[bad]at h
 | b::r,h=>
  have g:nm b=true->1<=((b::r).takeWhile nm).length:=by intro d;simp[d]
  have c:=Y3g nm (b::r);simp only at h⊢;split at h
  .rename_i j;rw[X3 j];have:=g (by simp[nm,j]);unfold Jj at h⊢;split at h
   .rename_i a;rw[X3 a];exact⟨this,c⟩
   .simp[bad]at h
  .rename_i j;rw[X2 j];split at h
   .rename_i d;rw[X3 d];have:=g (by simp[nm,d]);unfold V3 at h⊢;split at h
    .rename_i a;rw[X3 a];exact⟨this,c⟩
    .rename_i a;rw[X2 a];split at h
     .simp[bad]at h
     .rename_i k;rw[X2 k];exact⟨this,c⟩
   .rename_i d;rw[X2 d];split at h
    .rename_i n;rw[X3 n];unfold Gh at h⊢;split at h
     .simp[bad]at h
     .rename_i p y;split at h
      .simp[bad]at h
      .rename_i a;rw[X2 a];have:=Oo r p.1 p.2 y;simp;omega
    .rename_i n;rw[X2 n];unfold V2 at h⊢;split at h
     .simp[bad]at h
     .rename_i m q;have s:=List.mem_of_find?_eq_some q;have t:=List.find?_some q;have u:=E2 m s;have v:m <+: (b::r):=SU.1 t;exact⟨u.1,v.length_le⟩
theorem ET:∀(f g k:Nat) (l:List UInt8),l.length<f->l.length<g->scan f k l=scan g k l
 | 0,_,_,_,h,_=>by omega
 | f+1,0,_,_,_,h=>by omega
 | f+1,g+1,k,l,hf,hg=>by
  unfold scan;by_cases a:l.drop (Xz false l)=[]
  .rw[X3 a,X3 a]
  .rw[X2 a,X2 a];by_cases c:(one (l.drop (Xz false l))).code≠0
   .rw[X3 c,X3 c]
   .rw[X2 c,X2 c];have d:=MQ _ (by omega:(one (l.drop (Xz false l))).code=0)
    have e:=ET f g (k+Xz false l+(one (l.drop (Xz false l))).size) ((l.drop (Xz false l)).drop (one (l.drop (Xz false l))).size)
     (by simp only[YA]at d⊢;omega) (by simp only[YA]at d⊢;omega)
    rw[e]
def from_(l:List UInt8)(k:Nat):List T × Nat × Nat:=scan (l.length+1) k (l.drop k)
theorem X6m(l:List UInt8)(k:Nat)(h:l.length<=k+Xz false (l.drop k)):from_ l k=([],0,0):=by
 unfold from_ scan;rw[X3];rw[GM,SM];omega
theorem C9(l:List UInt8)(k:Nat)(a:Xz false (l.drop (k+Xz false (l.drop k)))=0):from_ l k=from_ l (k+Xz false (l.drop k)):=by
 unfold from_;conv=>lhs;unfold scan
 conv=>rhs;unfold scan
 rw[a,GM,Qm,WA]
theorem R5:∀(b:Bool) (l:List UInt8),Xz false (l.drop (Xz b l))=0:=by
 intro b l;induction l generalizing b with
 | nil=>simp[Xz]
 | cons x r a=>
  cases b
  .simp only[Xz];split
   .rw[VV,Ve];exact a true
   .split
    .rw[VV,Ve];exact a false
    .rename_i c d;rw[Qm];simp[Xz,c,d]
  .simp only[Xz];split
   .rw[VV,Ve];exact a false
   .rw[VV,Ve];exact a true
theorem X6l(l:List UInt8)(k:Nat)(d:k<l.length)(c:Xz false (l.drop k)=0)(a:(one (l.drop k)).code≠0):from_ l k=([],(one (l.drop k)).code,k):=by
 unfold from_ scan;rw[c,Qm,WA,X2 (by rw[SM];omega),X3 a]
theorem X6n(l:List UInt8)(k:Nat)(g:k<l.length)(d:Xz false (l.drop k)=0)(c:(one (l.drop k)).code=0): from_ l k=(⟨(one (l.drop k)).kind,(one (l.drop k)).text,(one (l.drop k)).n,k⟩::(from_ l (k+(one (l.drop k)).size)).1,(from_ l (k+(one (l.drop k)).size)).2):=by
 have a:=MQ _ c;unfold from_;conv=>lhs;unfold scan
 rw[d,Qm,WA,X2 (by rw[SM];omega),X2 (by omega),GM];rw[ET l.length (l.length+1) _ _ (by simp only[YA]at a⊢;omega) (by simp only[YA]at a⊢;omega)]
end Go.Proofs.YtkoiikmhfaebnaaGreatDoor.Sc
namespace Go.RowKit
theorem Hid.o{p:Prop}(h:Hid p):p:=h
end Go.RowKit
namespace Go.Proofs.YtkoiikmhfaebnaaGreatDoor
open Tryz Go.RowKit
theorem bA{w:World}(o:Obj):Below w.heap.size w (w.alloc o):=(X5 _ _).alloc (X4 _) o
theorem X1{p:Prop}(h:p):Hid p:=h
theorem Xf{a b:Bool}(h:a=b):Ending.returned (.bool a)= .returned (.bool b):=by rw[h]
theorem Jy{k:IntKind}{a b:Int}(h:a=b):Ending.returned (.int k a)= .returned (.int k b):=by rw[h]
def Xl(a lo hi:Int):Bool:=decide (lo<=a/\a<=hi)
theorem Ua{a lo hi:Int}(h:Xl a lo hi=true):lo<=a/\a<=hi:=by simpa[Xl]using h
theorem KF(b:UInt8)(w:World):Calls prog 198 #[.int .u8 b.toNat] w fun e w'=>e= .returned (.bool (Sc.dig b))/\w'=w:=by
 by_cases a:48<=(b.toNat:Int);all_goals by_cases c:(b.toNat:Int)<=57
 all_goals
  go_enter func198,ntmps198;go_wp2;go_ret;exact⟨Xf (by simp[Sc.dig];omega),rfl⟩
theorem Vt(b:UInt8)(w:World):Calls prog 200 #[.int .u8 b.toNat] w fun e w'=>e= .returned (.bool (Sc.beg b))/\w'=w:=by
 by_cases a:97<=(b.toNat:Int);all_goals by_cases c:(b.toNat:Int)<=122
 all_goals
  go_enter func200,ntmps200;go_wp2;go_ret;exact⟨Xf (Y5.2 (by simp[Sc.beg];omega)),rfl⟩
theorem QP(b:UInt8)(w:World):Calls prog 201 #[.int .u8 b.toNat] w fun e w'=>e= .returned (.bool (Sc.nm b))/\w'=w:=by
 have a:Sc.nm b=(Sc.beg b||Sc.dig b):=rfl;rw[a];clear a;cases c:Sc.beg b;all_goals
  go_enter func201,ntmps201;go_wp2_with(first|(go_at_call 200;refine(Vt _ _).mono ?_;rintro e w'⟨rfl,rfl⟩)|(go_at_call 198;refine(KF _ _).mono ?_;rintro e w'⟨rfl,rfl⟩));go_ret;exact⟨Xf (by simp),rfl⟩
def VQ(w:World)(b:Nat)(l:List (List UInt8)):Prop:=∀i (h:i<l.length),w.cell? ⟨b,i,none⟩=some (.string ⟨(l[i]).toArray⟩)
theorem R9(l:List (List UInt8))(b:Nat)(s:ByteArray)(w:World)(u:l.length<=1000)(k:VQ w b l): Calls prog 202 #[.slice (some ⟨b,0,none⟩) l.length l.length,.string s] w fun e w'=>e= .returned (.bool (decide (s.data.toList∈l)))/\w'=w:=by
 go_enter func202,ntmps202;go_wp2;go_loop[5] (fun t=>∃j:Nat,j<=l.length/\t= .int .i64 j/\∀i (h:i<l.length),i<j->l[i]≠s.data.toList) (fun t=>l.length-(intOf t).toNat)
 case atStart=>exact⟨0,X6 _,rfl,fun i _ h=>by omega⟩
 case round=>
  obtain⟨j,r,rfl,g⟩:=hrel;have d:=X1 g;clear g;by_cases c:j<l.length
  .have m:=k j c;cases a:(l[j]==s.toList)
   .go_wp2;go_round
    case rel=>
     refine⟨j+1,by omega,by go_num,?_⟩;intro i hi n;by_cases e:i=j
     .subst e;rw[Dz]at a;simpa using a
     .exact d.o i hi (by omega)
    case measure=>simp[intOf];omega
   .go_wp2;go_ret;refine⟨Xf ?_,rfl⟩;rw[Dz]at a;have e:l[j]=s.data.toList:=by simpa using a
    rw[eq_comm,Qr,←e];exact XR _
  .go_wp2;go_ret;refine⟨Xf ?_,rfl⟩;rw[eq_comm,decide_eq_false_iff_not];intro q;obtain⟨i,hi,e⟩:=OZ q;exact d.o i hi (by omega) e
theorem XM(w:World)(o:Obj):(w.alloc o).heap[w.heap.size]?=some o:=(Go.MapKept.heap_alloc w o).1
theorem Ry(w:World)(t:TypeId)(l:List (List UInt8)):VQ (w.alloc (.cells (l.map fun x=>Value.string ⟨x.toArray⟩).toArray t)) w.heap.size l:=by
 intro i h;rw[World.cell?,XM];simp[h]
theorem Lm(w:World):Calls prog 203 #[] w fun e w'=>e= .returned (.slice (some ⟨w.heap.size,0,none⟩) 17 17)/\Below w.heap.size w w'/\w.heap.size<w'.heap.size/\VQ w' w.heap.size Sc.words:=by
 go_enter func203,ntmps203;go_wp2;go_ret;refine⟨rfl,bA _,by simp,?_⟩;exact Ry w 9 Sc.words
theorem Zw(a lo hi:Int)(w:World):Calls prog 82 #[.int .i64 a,.int .i64 lo,.int .i64 hi] w fun e w'=>e= .returned (.bool (Xl a lo hi))/\w'=w:=by
 by_cases c:lo<=a;all_goals by_cases d:a<=hi
 all_goals
  go_enter func82,ntmps82;go_wp2;go_ret;exact⟨Xf (by simp[Xl,c,d]),rfl⟩
theorem UP(a:Int)(w:World):Calls prog 196 #[.int .i64 a] w fun e w'=>e= .returned (.bool (Xl a 1 16))/\w'=w:=by
 go_enter func196,ntmps196;go_wp2_with(go_at_call 82;refine(Zw _ _ _ _).mono ?_;rintro e w'⟨rfl,rfl⟩);go_ret;exact⟨rfl,rfl⟩
def QN(b:UInt8):Bool:=decide (97<=(b.toNat:Int))&&decide ((b.toNat:Int)<=122)||Sc.dig b||!((b.toNat:Int)!=95)||!((b.toNat:Int)!=45)||!((b.toNat:Int)!=46)||!((b.toNat:Int)!=47)
def KA(p:UInt8->Bool):List UInt8->Bool
 | []=>true
 | b::r=>p b&&KA p r
theorem DK(p:UInt8->Bool)(b:UInt8)(r:List UInt8):KA p (b::r)=(p b&&KA p r):=rfl
def Uc(s:ByteArray):Bool:=Xl s.size 1 30&&KA QN s.data.toList
def KT(s:ByteArray):Bool:=Xl s.size 1 30&&(s.data.toList.head?.map Sc.beg==some true)&&!decide (s.data.toList∈Sc.words)&&KA Sc.nm s.data.toList
theorem JX(s:ByteArray)(w:World):Calls prog 194 #[.string s] w fun e w'=>e= .returned (.bool (Uc s))/\w'=w:=by
 cases hi:Xl s.size 1 30
 .go_enter func194,ntmps194;go_wp2_with(go_at_call 82;refine(Zw _ _ _ _).mono ?_;rintro e w'⟨rfl,rfl⟩);go_ret;exact⟨Xf (by simp[Uc,hi]),rfl⟩
 .obtain⟨D,E⟩:=Ua hi;have a:Uc s=KA QN s.data.toList:=by simp[Uc,hi]
  rw[a];clear a;go_enter func194,ntmps194;go_wp2_with(go_at_call 82;refine(Zw _ _ _ _).mono ?_;rintro e w'⟨rfl,rfl⟩);go_loop[3] (fun t=>∃j:Nat,j<=s.size/\t= .int .i64 j/\KA QN s.data.toList=KA QN (s.data.toList.drop j)) (fun t=>s.size-(intOf t).toNat)
  case atStart=>exact⟨0,X6 _,rfl,by simp⟩
  case round=>
   obtain⟨j,F,rfl,y⟩:=hrel;have k:=X1 y;clear y;by_cases d:j<s.size
   .have C:=X1 (Sc.drop_cons s j d);have v:QN s[j]=(decide (97<=(s[j].toNat:Int))&&decide ((s[j].toNat:Int)<=122)||Sc.dig s[j]||!((s[j].toNat:Int)!=95)||!((s[j].toNat:Int)!=45)||!((s[j].toNat:Int)!=46)||!((s[j].toNat:Int)!=47)):=rfl;have g:=X1 v;clear v;have fin:∀b,QN s[j]=b->KA QN s.data.toList=(b&&KA QN (s.data.toList.drop (j+1))):=by
     intro b e;rw[k.o,C.o,DK,e]
    have z:=X1 fin;clear fin;by_cases A:97<=(s[j].toNat:Int);all_goals by_cases B:(s[j].toNat:Int)<=122
    all_goals cases m:Sc.dig s[j]
    all_goals cases n:((s[j].toNat:Int)!=95)
    all_goals cases q:((s[j].toNat:Int)!=45)
    all_goals cases r:((s[j].toNat:Int)!=46)
    all_goals cases u:((s[j].toNat:Int)!=47)
    all_goals first|(exfalso;have:=g.o;simp[Sc.dig]at m n q r u;omega)|skip
    all_goals
     have c:=g.o;rw[m,n,q,r,u]at c;simp[A,B]at c;have l:=X1 (z.o _ c);clear c;go_wp2_with(go_at_call 198;refine(KF _ _).mono ?_;rintro e w'⟨rfl,rfl⟩);first
     | (go_ret;exact⟨Xf (by rw[l.o];rfl),rfl⟩)
     | (go_round
        case rel=>exact⟨j+1,by omega,by go_num,by rw[l.o];rfl⟩
        case measure=>simp[intOf];omega)
   .go_wp2;go_ret;refine⟨Xf ?_,rfl⟩;have e:=k.o;rw[Yu (i:=j) (by simp;omega)]at e;rw[e];rfl
theorem Cq(s:ByteArray)(w:World)(b:Nat)(a:VQ w b Sc.words): Calls prog 202 #[.slice (some ⟨b,0,none⟩) 17 17,.string s] w fun e w'=>e= .returned (.bool (decide (s.data.toList∈Sc.words)))/\w'=w:=R9 Sc.words b s w (by decide) a
theorem JU(s:ByteArray)(w:World):Calls prog 195 #[.string s] w fun e w'=>e= .returned (.bool (KT s))/\Below w.heap.size w w':=by
 cases hi:Xl s.size 1 30
 .go_enter func195,ntmps195;go_wp2_with(go_at_call 82;refine(Zw _ _ _ _).mono ?_;rintro e w'⟨rfl,rfl⟩);go_ret;exact⟨Xf (by simp[KT,hi]),X5 _ _⟩
 .obtain⟨u,v⟩:=Ua hi;have k:0<s.size:=by omega
  have n:s.data.toList.head?=some s[0]:=by have:=Sc.drop_cons s 0 k;rw[Qm]at this;rw[this];rfl
  have q:KT s=(Sc.beg s[0]&&!decide (s.data.toList∈Sc.words)&&KA Sc.nm s.data.toList):=by simp[KT,hi,n]
  rw[q];clear q n;cases z:Sc.beg s[0]
  .go_enter func195,ntmps195;go_wp2_with(first|(go_at_call 82;refine(Zw _ _ _ _).mono ?_;rintro e w'⟨rfl,rfl⟩)|(go_at_call 200;refine(Vt _ _).mono ?_;rintro e w'⟨rfl,rfl⟩));go_ret;exact⟨rfl,X5 _ _⟩
  .cases B:decide (s.data.toList∈Sc.words)
   .go_enter func195,ntmps195;go_wp2_with(first|(go_at_call 82;refine(Zw _ _ _ _).mono ?_;rintro e w'⟨rfl,rfl⟩)|(go_at_call 200;refine(Vt _ _).mono ?_;rintro e w'⟨rfl,rfl⟩)|(go_at_call 203;refine(Lm _).mono ?_;rintro e w1⟨rfl,a,y,c⟩)|(go_at_call 202;refine(Cq s _ _ c).mono ?_;rintro e w'⟨rfl,rfl⟩));go_loop[3] (fun t=>∃j:Nat,j<=s.size/\t= .int .i64 j/\KA Sc.nm s.data.toList=KA Sc.nm (s.data.toList.drop j)) (fun t=>s.size-(intOf t).toNat)
    case atStart=>exact⟨0,X6 _,rfl,by simp⟩
    case round=>
     obtain⟨j,A,rfl,m⟩:=hrel;have d:=X1 m;clear m;by_cases g:j<s.size
     .have l:=X1 (Sc.drop_cons s j g);cases r:Sc.nm s[j]
      .go_wp2_with(go_at_call 201;refine(QP _ _).mono ?_;rintro e w'⟨rfl,rfl⟩);go_ret;refine⟨Xf ?_,a⟩;rw[d.o,l.o,DK,r];rfl
      .go_wp2_with(go_at_call 201;refine(QP _ _).mono ?_;rintro e w'⟨rfl,rfl⟩);go_round
       case rel=>exact⟨j+1,by omega,by go_num,by rw[d.o,l.o,DK,r];rfl⟩
       case measure=>simp[intOf];omega
     .go_wp2;go_ret;refine⟨Xf ?_,a⟩;have e:=d.o;rw[Yu (i:=j) (by simp;omega)]at e;rw[e];rfl
   .go_enter func195,ntmps195;go_wp2_with(first|(go_at_call 82;refine(Zw _ _ _ _).mono ?_;rintro e w'⟨rfl,rfl⟩)|(go_at_call 200;refine(Vt _ _).mono ?_;rintro e w'⟨rfl,rfl⟩)|(go_at_call 203;refine(Lm _).mono ?_;rintro e w1⟨rfl,a,y,c⟩)|(go_at_call 202;refine(Cq s _ _ c).mono ?_;rintro e w'⟨rfl,rfl⟩));go_ret;exact⟨rfl,a⟩
structure Nd where
 kind:Int
 op:Int
 n:Int
 text:ByteArray
 kids:Int
def Nd.cells(x:Nd):List Value:=[.int .i64 x.kind,.int .i64 x.op,.int .i64 x.n,.string x.text,.int .i64 x.kids]
def Xe(l:List Nd):List Value:=l.flatMap Nd.cells
def Yw(w:World)(g:Nat)(l:List Nd):Prop:=g<w.heap.size/\∀i (h:i<l.length),w.cell? ⟨g,i*5,none⟩=some (.int .i64 l[i].kind)/\w.cell? ⟨g,i*5+1,none⟩=some (.int .i64 l[i].op)/\w.cell? ⟨g,i*5+2,none⟩=some (.int .i64 l[i].n)/\w.cell? ⟨g,i*5+3,none⟩=some (.string l[i].text)/\w.cell? ⟨g,i*5+4,none⟩=some (.int .i64 l[i].kids)
theorem Yw.below{w w':World}{g:Nat}{l:List Nd}(h:Yw w g l)(j:BL w w'):Yw w' g l:=by
 refine⟨Xd h.1 j.size,fun i hi=>?_⟩;obtain⟨a,b,c,d,e⟩:=h.2 i hi;exact⟨(j.cell (p:=⟨g,i*5,none⟩) h.1).trans a,(j.cell (p:=⟨g,i*5+1,none⟩) h.1).trans b,(j.cell (p:=⟨g,i*5+2,none⟩) h.1).trans c,(j.cell (p:=⟨g,i*5+3,none⟩) h.1).trans d,(j.cell (p:=⟨g,i*5+4,none⟩) h.1).trans e⟩
def Yz(w:World)(g o:Nat)(l:List Nat):Prop:=g<w.heap.size/\∀j (h:j<l.length),w.cell? ⟨g,o+j,none⟩=some (.int .i64 l[j])
theorem Yz.below{w w':World}{g o:Nat}{l:List Nat}(h:Yz w g o l)(a:BL w w'):Yz w' g o l:=⟨Xd h.1 a.size,fun j c=>(a.cell (p:=⟨g,o+j,none⟩) h.1).trans (h.2 j c)⟩
theorem Yz.drop{w:World}{g o:Nat}{l:List Nat}(h:Yz w g o l)(k:Nat):Yz w g (o+k) (l.drop k):=⟨h.1,fun j a=>by have:=h.2 (k+j) (by simp at a;omega);rw[List.getElem_drop,←this,Nat.add_assoc]⟩
def XU(k:Int):Bool:=k==4||k==5||k==11||k==14||Xl k 16 21||k==23
def Xh(x:Nd):Bool:=
 if(!XU x.kind&&!(x.text.toList==[])||(x.kind !=2&&x.kind !=3&&x.n !=0)||(x.kind !=6&&x.kind !=7&&x.op !=0))=true then false
 else if x.kind=2 then x.n==0||x.n==1
 else if x.kind=3 then decide (0<=x.n)
 else if x.kind=4\/x.kind=17 then decide ((x.text.size:Int)<=1000)
 else if x.kind=6 then Xl x.op 1 2
 else if x.kind=7 then Xl x.op 1 14
 else if x.kind=23 then Uc x.text
 else !XU x.kind||KT x.text
theorem Tk(k:Int):k=2\/k=3\/k=4\/k=5\/k=11\/k=14\/k=6\/k=7\/k=17\/k=23\/(Xl k 16 21=true/\k≠17)\/(XU k=false/\Xl k 16 21=false/\k≠2/\k≠3/\k≠4/\k≠5/\k≠11/\k≠14/\k≠6/\k≠7/\k≠17/\k≠23):=by
 by_cases h:Xl k 16 21=true
 .by_cases a:k=17
  .simp[a]
  .simp[h,a]
 .simp[XU];simp at h;simp[h];omega
def J9(ns:List Nd)(ls:List Nat):Bool:=decide (∀i (h:i<ls.length) k (h':k<i),(ns[ls[k]]?.map (·.text))≠(ns[ls[i]]?.map (·.text)))
theorem N5{ns:List Nd}{ls:List Nat}(h:∀i (h:i<ls.length) k (a:k<i),(ns[ls[k]]?.map (·.text))≠(ns[ls[i]]?.map (·.text))):J9 ns ls=true:=by
 unfold J9;exact YJ h
theorem N4{ns:List Nd}{ls:List Nat}{i k:Nat}(hi:i<ls.length)(a:k<i)(h:(ns[ls[k]]?.map (·.text))=(ns[ls[i]]?.map (·.text))):J9 ns ls=false:=by
 unfold J9;exact Yb fun q=>q i hi k a h
theorem LQ(ns:List Nd)(ls:List Nat)(l I g o c:Nat)(w:World)(hl:ls.length<=1048576)(ht:Yw w l ns)(hi:Yz w g o ls)(v:∀x∈ls,x<ns.length): Calls prog 197 #[.agg #[.slice (some ⟨l,0,none⟩) ns.length I],.slice (some ⟨g,o,none⟩) ls.length c] w fun e w'=>e= .returned (.bool (J9 ns ls))/\Below w.heap.size w w':=by
 have r1:BL w (w.alloc (.cells #[.slice (some ⟨l,0,none⟩) ns.length I] 25)):=bA _;have H:=X1 ht;have F:=X1 hi;have n:=X1 v;clear ht hi v;go_enter func197,ntmps197;go_wp2;go_loopw[5] (fun t wr=>∃i:Nat,i<=ls.length/\t= .int .i64 i/\BL w wr/\w.heap.size<wr.heap.size/\wr.cell? ⟨w.heap.size,0,none⟩=some (.slice (some ⟨l,0,none⟩) ns.length I)/\(∀j (h:j<ls.length) k (h':k<j),j<i->(ns[ls[k]]?.map (·.text))≠(ns[ls[j]]?.map (·.text)))) (fun t _=>ls.length-(intOf t).toNat)
 case atStart=>exact⟨0,X6 _,rfl,r1,by simp,by simp,fun j _ k _ h=>by omega⟩
 case round=>
  obtain⟨i,a4,rfl,V,C,K,he⟩:=hrel;have Q:=X1 he;clear he;by_cases B:i<ls.length
  .have W:=F.o.2 i B;have hx:ls[i]<ns.length:=n.o _ (XR _);obtain⟨_,_,_,Z,_⟩:=H.o.2 ls[i] hx;have D:=X1 (show ns[ls[i]]?.map (·.text)=some ns[ls[i]].text by simp[hx]);go_wp2;go_loopw[6] (fun t wr=>∃k:Nat,k<=i/\t= .int .i64 k/\BL w wr/\w.heap.size<wr.heap.size/\wr.cell? ⟨w.heap.size,0,none⟩=some (.slice (some ⟨l,0,none⟩) ns.length I)/\(∀j (h:j<ls.length),j<k->(ns[ls[j]]?.map (·.text))≠(ns[ls[i]]?.map (·.text)))) (fun t _=>i-(intOf t).toNat)
   case atStart=>exact⟨0,X6 _,rfl,V,C,K,fun j _ h=>by omega⟩
   case round=>
    obtain⟨k,hk,rfl,a,d,s,u⟩:=hrel;have m:=X1 u;clear u;by_cases M:k<i
    .have N:k<ls.length:=by omega
     have X:=F.o.2 k N;have hy:ls[k]<ns.length:=n.o _ (XR _);obtain⟨_,_,_,Y,_⟩:=H.o.2 ls[k] hy;have E:=X1 (show ns[ls[k]]?.map (·.text)=some ns[ls[k]].text by simp[hy]);have a0:=(a.cell (p:=⟨g,o+i,none⟩) F.o.1).trans W;have a1:=(a.cell (p:=⟨g,o+k,none⟩) F.o.1).trans X;have a2:=(a.cell (p:=⟨l,ls[i]*5+3,none⟩) H.o.1).trans Z;have a3:=(a.cell (p:=⟨l,ls[k]*5+3,none⟩) H.o.1).trans Y;have r:=X1 (show(ns[ls[k]]?.map (·.text)=ns[ls[i]]?.map (·.text))↔(ns[ls[k]].text=ns[ls[i]].text) by rw[D.o,E.o];simp);generalize ns[ls[k]].text=tk at *;generalize ns[ls[i]].text=ti at *;generalize A:ls[k]=xk at *;generalize z:ls[i]=xi at *;clear D E W X Z Y;have q:=X1 A;have J:=X1 z;clear A z;cases P:(tk.toList==ti.toList)
     .go_wp2;go_quiet(fail);go_wp2;go_roundw
      case rel=>
       refine⟨k+1,by omega,by go_num,below_drewN a _,d,s,?_⟩;intro j y a6;by_cases e:j=k
       .subst e;rw[q.o];intro h;have:=r.o.1 h;rw[this]at P;simp at P
       .exact m.o j y (by omega)
      case measure=>simp[intOf];omega
     .go_wp2;go_quiet(fail);go_wp2;go_ret;refine⟨Xf ?_,below_drewN a _⟩;refine(N4 B M ?_).symm;rw[q.o,J.o];refine r.o.2 ?_;have S:tk.toList=ti.toList:=by simpa using P
      rw[Dz,Dz]at S;exact Wx (Ww.1 S)
    .go_wp2;go_roundw
     case rel=>
      refine⟨i+1,by omega,by go_num,a,d,s,?_⟩;intro j y k' L a5;by_cases e:j=i
      .subst e;exact m.o k' (by omega) (by omega)
      .exact Q.o j y k' L (by omega)
     case measure=>simp[intOf];omega
  .go_wp2;go_ret;refine⟨Xf ?_,V⟩;exact(N5 fun j y k hk=>Q.o j y k hk (by omega)).symm
def X8(ns:List Nd)(x:Nat):Int:=match ns[x]? with
 | some d=>d.kind
 | none=>0
def Yy(ns:List Nd)(x:Nat):Bool:=Xl (X8 ns x) 1 16
def Y7(ns:List Nd):List Nat->Nat
 | []=>0
 | x::r=>(if Yy ns x=true then 1 else 0)+Y7 ns r
def YI(ns:List Nd):List Nat->Nat
 | []=>0
 | x::r=>if Yy ns x=true then 1+YI ns r else 0
def XJ(ns:List Nd)(p:Int->Bool):List Nat->Bool
 | []=>true
 | x::r=>p (X8 ns x)&&XJ ns p r
theorem ZC{ns:List Nd}{x:Nat}(h:x<ns.length):X8 ns x=ns[x].kind:=by simp[X8,h]
theorem WG(ns:List Nd)(ls:List Nat)(j:Nat)(h:j<ls.length):Y7 ns (ls.drop j)=(if Yy ns ls[j]=true then 1 else 0)+Y7 ns (ls.drop (j+1)):=by
 rw[Zp h];rfl
theorem DJ(ns:List Nd)(p:Int->Bool)(ls:List Nat)(j:Nat)(h:j<ls.length):XJ ns p (ls.drop j)=(p (X8 ns ls[j])&&XJ ns p (ls.drop (j+1))):=by
 rw[Zp h];rfl
theorem UH(ns:List Nd)(ls:List Nat):Y7 ns ls<=ls.length:=by
 induction ls with
 | nil=>exact X4 _
 | cons x r a=>simp only[Y7,Ya];split<;>omega
def XA(ns:List Nd)(k:Int)(ls:List Nat):Bool:=
 if k=1\/k=2\/k=3\/k=4\/k=5 then decide ((ls.length:Int)=0)
 else if k=6\/k=11\/k=17\/k=18\/k=21\/k=22 then decide ((ls.length:Int)=1/\(Y7 ns ls:Int)=1)
 else if k=7\/k=10\/k=14 then decide ((ls.length:Int)=2/\(Y7 ns ls:Int)=2)
 else if k=13 then decide ((ls.length:Int)=3/\(Y7 ns ls:Int)=3)
 else if k=16 then decide ((2<=(ls.length:Int)/\(ls.length:Int)<=3)/\(Y7 ns ls:Int)=ls.length)
 else if k=19 then decide ((ls.length:Int)<=1/\(Y7 ns ls:Int)=ls.length)
 else if k=8 then decide ((Y7 ns ls:Int)=ls.length/\(ls.length:Int)<=200)
 else if k=9 then XJ ns (fun x=>x==17) ls&&decide ((ls.length:Int)<=200)&&J9 ns ls
 else if k=12 then XJ ns (fun x=>x==18) (ls.drop (YI ns ls))&&decide (1<=(YI ns ls:Int))&&decide ((ls.length:Int)-1<=8)&&J9 ns (ls.drop (YI ns ls))
 else if k=15\/k=20 then XJ ns (fun x=>x==19) ls.dropLast&&(ls.getLast?.map (Yy ns)==some true)&&decide ((ls.length:Int)-1<=8)
 else if k=23 then XJ ns (fun x=>x==5) ls&&Xl ls.length 1 200
 else if k=24 then XJ ns (fun x=>Xl x 20 23) ls&&decide ((ls.length:Int)<=200)
 else false
theorem Xae(kind:Int)(ns:List Nd)(ls:List Nat)(y D g c:Nat)(w:World)(X:ls.length<=1048576)(J:Yw w y ns)(hi:Yz w g 0 ls)(u:∀x∈ls,x<ns.length)(a:kind=1\/kind=2\/kind=3\/kind=4\/kind=5\/kind=6\/kind=11\/kind=17\/kind=18\/kind=21\/kind=22\/kind=7\/kind=10\/kind=14\/kind=13\/kind=16\/kind=19\/kind=8): Calls prog 136 #[.agg #[.slice (some ⟨y,0,none⟩) ns.length D],.int .i64 kind,.slice (some ⟨g,0,none⟩) ls.length c] w fun e w'=>e= .returned (.bool (XA ns kind ls))/\Below w.heap.size w w':=by
 have L:BL w (w.alloc (.cells #[.slice (some ⟨y,0,none⟩) ns.length D] 25)):=bA _;have B:=X1 J;have A:=X1 hi;have q:=X1 u;have E:=X1 a;have P:=UH ns ls;clear J hi u a;go_enter func136,ntmps136;go_wp2;go_loopw[8,10] (fun s t wr=>∃(j k:Nat),j<=ls.length/\t= .int .i64 j/\s= .int .i64 k/\k+Y7 ns (ls.drop j)=Y7 ns ls/\BL w wr/\w.heap.size<wr.heap.size/\wr.cell? ⟨w.heap.size,0,none⟩=some (.slice (some ⟨y,0,none⟩) ns.length D)) (fun _ t _=>ls.length-(intOf t).toNat)
 case atStart=>exact⟨0,0,X6 _,rfl,rfl,by simp,L,by simp,by simp⟩
 case round=>
  obtain⟨j,k,Q,rfl,rfl,H,n,d,l⟩:=hrel;have z:=X1 H;clear H;by_cases v:j<ls.length
  .have C:=A.o.2 j v;rw[Xn]at C;have K:ls[j]<ns.length:=q.o _ (XR _);obtain⟨F,_⟩:=B.o.2 ls[j] K;have N:=X1 (WG ns ls j v);have M:=X1 (show Yy ns ls[j]=Xl ns[ls[j]].kind 1 16 by unfold Yy;rw[ZC K]);have V:=(n.cell (p:=⟨g,j,none⟩) A.o.1).trans C;have W:=(n.cell (p:=⟨y,ls[j]*5,none⟩) B.o.1).trans F;generalize ns[ls[j]].kind=S at *;generalize ls[j]=Y at *;clear C F;have r:k<=ls.length:=by have:=z.o;omega
   cases I:Xl S 1 16;all_goals
    go_wp2;go_quiet((go_at_call 196;exact Calls.quiet_of_same (UP _ _)));rw[I];go_wp2;go_roundw
    case rel=>
     have m:=z.o;rw[N.o,M.o,I]at m;first|rw[X3 rfl]at m|rw[X2 (by decide)]at m
     first
     | exact⟨j+1,k+1,by omega,by go_num,by go_num,by omega,below_drewN n _,d,l⟩
     | exact⟨j+1,k,by omega,by go_num,rfl,by omega,below_drewN n _,d,l⟩
    case measure=>simp[intOf];omega
  .have r:k=Y7 ns ls:=by have m:=z.o;rw[Yu (by omega)]at m;simpa[Y7]using m
   subst r;obtain rfl:j=ls.length:=by omega
   clear z Q;rcases E.o with rfl|rfl|rfl|rfl|rfl|rfl|rfl|rfl|rfl|rfl|rfl|rfl|rfl|rfl|rfl|rfl|rfl|rfl;all_goals
    go_wp2_with(go_at_call 82;refine(Zw _ _ _ _).mono ?_;rintro e w'⟨rfl,rfl⟩)
   all_goals
    go_ret;refine⟨Xf ?_,n⟩;clear B A q E n l L;rw[Y5];first
    | (simp[XA];done)
    | (simp[XA];omega)
    | (rename_i h;simp[Xl]at h;simp[XA];omega)
