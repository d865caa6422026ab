import Derived.Lib.ParseIntB
import Derived.WalkKit
import Derived.WalkSpells
import Derived.WalkLawsBesides
import Derived.Deep.DeepFit
import Derived.Deep.DeepMust
import Derived.Lib.Strings
import Derived.Maps.AppendAt
import Derived.Test.YtaeafhenpjnhiaaGreatDoorProg
import Derived.Laws.World
import Derived.Deep.QuietTactic
import Derived.BigQuiet
import Derived.Deep.RegionWith
set_option maxHeartbeats 1000000
namespace Go.Proofs.YtaeafhenpjnhiaaGreatDoor
open Tryz Go.RowKit
abbrev BL(w w':World):Prop:=Below w.heap.size w w'
abbrev X5:=@Nat.le_refl
abbrev X6:=@if_neg
abbrev X8:=@Below.refl
abbrev Xa:=@if_pos
abbrev Xb:=@Nat.zero_le
abbrev Xj:=@List.length_append
abbrev Xq:=@bodyPost_ret
abbrev Xu:=@Nat.zero_add
abbrev Xz:=@Nat.le_trans
abbrev XE:=@Bool.and_eq_true
abbrev XH:=@Nat.lt_of_lt_of_le
abbrev XI:=@List.length_cons
abbrev XQ:=@World.cell?_of_block
abbrev Y0:=@Below.heap_setCell
abbrev Y4:=@World.ownsRow_lit
abbrev Y5:=@List.map_cons
abbrev Ya:=@List.length_nil
abbrev Yp:=@IntKind.wrap_i64
abbrev Yt:=@congrArg
abbrev Yx:=@World.size_alloc
abbrev YC:=@List.length_drop
abbrev YD:=@List.map_nil
abbrev YH:=@Bool.eq_iff_iff
abbrev YI:=@List.drop_of_length_le
abbrev YJ:=@List.getElem_mem
abbrev YK:=@info_parts
abbrev YM:=@Nat.le_of_ble_eq_true
abbrev YO:=@List.length_take
abbrev YY:=@wpList_append_own_at
abbrev Zq:=@Option.some.inj
abbrev Zt:=@World.cell?_setCell_other
abbrev ZA:=@Result.andThen_ok
abbrev ZB:=@Sem.run_bind
abbrev ZC:=@World.frozen?_of_block
abbrev ZO:=@Option.some.injEq
abbrev ZZ:=@List.getElem?_cons_succ
abbrev K0:=@List.getElem?_eq_getElem
abbrev K7:=@World.ownsRow_nil
abbrev Kh:=@List.drop_zero
abbrev Kl:=@if_false
abbrev Kq:=@List.getElem?_cons_zero
abbrev Kr:=@List.mem_cons
abbrev Kv:=@if_true
abbrev KA:=@ByteArray.size_append
abbrev KC:=@List.mem_append
abbrev KL:=@List.append_assoc
abbrev KM:=@List.drop_eq_getElem_cons
abbrev Q7:=@List.getElem?_append_right
abbrev Q8:=@List.mem_of_mem_drop
abbrev Q9:=@Nat.lt_succ_self
abbrev Qf:=@List.getElem?_toArray
abbrev Qg:=@List.map_toArray
abbrev Qk:=@World.cell?_setCell_same
abbrev Ql:=@beq_iff_eq
abbrev Qn:=@of_decide_eq_true
abbrev Qw:=@Below.setCell
abbrev Qx:=@List.eq_nil_of_length_eq_zero
abbrev Qy:=@Nat.le_succ
abbrev QE:=@World.block_lt_of_cell?
abbrev QS:=@Array.getElem?_eq_some_iff
abbrev QU:=@List.not_mem_nil
abbrev J2:=@decide_eq_true_iff
abbrev J7:=@or_false
abbrev Jc:=@List.take_succ_cons
abbrev Jd:=@Sem.run_pure
abbrev Jp:=@Below.drew
abbrev Jq:=@Bool.false_eq_true
abbrev Js:=@Lib.toList_data
abbrev Jt:=@List.getElem?_append_left
abbrev Ju:=@List.length_map
abbrev Jv:=@Nat.min_eq_left
abbrev JE:=@run_program
abbrev JG:=@Array.length_toList
abbrev JH:=@List.flatMap_cons
abbrev JI:=@List.map_append
abbrev JJ:=@List.nil_append
abbrev JK:=@Nat.not_lt_zero
abbrev JO:=@World.ownsRow.cells
abbrev JP:=@decide_eq_false
abbrev JW:=@List.append_nil
abbrev JX:=@List.take_append_drop
abbrev JY:=@List.take_length
abbrev Ua:=@List.all_eq_true
abbrev Ub:=@List.drop_drop
abbrev Uc:=@List.flatten_append
abbrev Ud:=@List.map_drop
abbrev Ue:=@List.mem_of_mem_take
abbrev Ux:=@List.cons_append
abbrev Uy:=@List.length_eq_zero_iff
abbrev Uz:=@List.map_take
abbrev UA:=@Option.map_some
abbrev UJ:=@World.frozen?_setCell
abbrev UM:=@beq_eq_false_iff_ne
abbrev UW:=@Bool.false_and
abbrev UX:=@Bool.or_eq_true
abbrev UY:=@Int.tmod_eq_emod_of_nonneg
abbrev UZ:=@List.getElem_cons_zero
abbrev V0:=@List.isPrefixOf_iff_prefix
abbrev V1:=@List.mem_singleton
abbrev V2:=@List.takeWhile_cons
abbrev V4:=@Nat.add_comm
abbrev V5:=@Nat.lt_or_ge
abbrev Vr:=@wpList_append_own
abbrev Vs:=@Bool.true_and
abbrev Vv:=@List.drop_succ_cons
abbrev Vw:=@List.mem_map
abbrev Vx:=@List.take_succ_eq_append_getElem
abbrev Vy:=@Nat.add_zero
abbrev Vz:=@Nat.mul_le_mul_right
abbrev VO:=@decide_eq_true_eq
abbrev Wm:=@Array.getElem?_eq_none
abbrev Wp:=@List.length_set
abbrev Wq:=@List.mem_range
abbrev Ws:=@Nat.add_mul
abbrev Wt:=@Nat.mod_lt
abbrev Wu:=@Option.getD_some
abbrev Dh:=@Array.getD_eq_getD_getElem?
abbrev Di:=@Array.getElem?_setIfInBounds
abbrev Dj:=@Array.size_setIfInBounds
abbrev Dm:=@List.flatMap_append
abbrev Dn:=@List.getElem?_drop
abbrev Dp:=@List.getElem?_eq_none
abbrev Dq:=@List.getElem?_take
abbrev Ds:=@List.length_singleton
abbrev Dt:=@Nat.add_sub_cancel
abbrev Du:=@Nat.le_of_lt
abbrev DU:=@decide_eq_true
abbrev Gz:=@ownsRow_setCell_below
abbrev I0:=@true_and
abbrev I3:=@Bool.false_or
abbrev I5:=@List.getElem?_eq_some_iff
abbrev I6:=@List.getElem_append_left
abbrev I7:=@List.map_map
abbrev I8:=@List.take_of_length_le
abbrev Ia:=@Nat.eq_zero_or_pos
abbrev Ib:=@Nat.lt_of_le_of_lt
abbrev Ic:=@Nat.lt_trans
abbrev Ie:=@Nat.one_mul
abbrev Ma:=@Array.getElem?_eq_getElem
abbrev Mb:=@ByteArray.ext
abbrev Mf:=@List.drop_eq_nil_iff
abbrev Mg:=@List.flatMap_map
abbrev Mh:=@List.foldl_cons
abbrev Mi:=@List.getElem?_map
abbrev Mj:=@List.mem_filter
abbrev Ml:=@List.set_cons_zero
abbrev Mm:=@List.take_take
abbrev Mo:=@Nat.le_of_succ_le
abbrev MG:=@WideMaps.keyOf_string_mk
abbrev Rc:=@Array.all_eq_true'
abbrev Re:=@Array.mem_of_getElem?
abbrev Rf:=@Array.toList_inj
abbrev Rg:=@Bool.and_assoc
abbrev Rh:=@Bool.not_eq_true'
abbrev Ri:=@ByteArray.toList_eq
abbrev Rk:=@Int.toNat_of_nonneg
abbrev Rm:=@List.flatten_cons
abbrev Rn:=@List.flatten_nil
abbrev Ro:=@List.getElem_of_mem
abbrev Rp:=@List.getLast?_eq_getElem?
abbrev Rr:=@List.mem_of_getElem?
abbrev Rs:=@List.nodup_iff_pairwise_ne
abbrev Rt:=@List.pairwise_map
abbrev Ru:=@List.set_cons_succ
abbrev Rv:=@List.zip_cons_cons
abbrev Sd:=@UInt8.toNat_inj
abbrev Se:=@World.ownsMap_made
abbrev BO:=@not_false_eq_true
abbrev CU:=@run_append_own_at
namespace Sc
def dig(b:UInt8):Bool:=decide (48<=b.toNat/\b.toNat<=57)
def beg(b:UInt8):Bool:=decide ((97<=b.toNat/\b.toNat<=122)\/b.toNat=95)
def nm(b:UInt8):Bool:=beg b||dig b
def XZ(b:UInt8):Int:=if 48<=b.toNat/\b.toNat<=57 then(b.toNat:Int)-48 else if 97<=b.toNat/\b.toNat<=102 then(b.toNat:Int)-97+10 else -1
def Xl:Bool->List UInt8->Nat
 | _,[]=>0
 | false,b::r=>if b.toNat=35 then 1+Xl true r else if b.toNat=32\/b.toNat=10 then 1+Xl false r else 0
 | true,b::r=>if b.toNat=10 then 1+Xl false r else 1+Xl true r
def YR(l:List UInt8):Nat:=l.foldl (fun a b=>a*10+(b.toNat-48)) 0
def unq:List UInt8->Option (List UInt8 × Nat)
 | []=>none
 | b::r=>
  if b.toNat=34 then some ([],1)
  else if b.toNat=92 then
   match r with
   | h::lo::r'=>if XZ h<0\/XZ lo<0 then none else(unq r').map fun p=>(UInt8.ofNat (16*XZ h+XZ lo).toNat::p.1,p.2+3)
   | _=>none
  else if b.toNat<32\/126<b.toNat then none
  else(unq r).map fun p=>(b::p.1,p.2+1)
def words:List (List UInt8):=[[97,110,100],[100,101,102],[101,108,115,101],[101,109,105,116],[102,97,108,115,101],[102,110],[102,111,114],[104,97,115],[105,102],[105,110],[108,101,116],[108,111,97,100],[110,111,110,101],[110,111,116],[111,114],[116,104,101,110],[116,114,117,101]]
def marks:List (List UInt8):=[[61,61],[33,61],[60,61],[62,61],[61,62],[40],[41],[91],[93],[123],[125],[44],[59],[58],[46],[61],[60],[62],[43],[45],[42],[47],[37]]
structure R where
 code:Nat
 kind:Nat
 text:List UInt8
 n:Nat
 size:Nat
def bad(c:Nat):R:=⟨c,0,[],0,0⟩
def ZV(l:List UInt8):R:=if(l.takeWhile nm).all dig=true/\YR (l.takeWhile nm)<=9223372036854775807/\¬(l.head?=some 48/\1<(l.takeWhile nm).length)then⟨0,3,[],YR (l.takeWhile nm),(l.takeWhile nm).length⟩else bad 3
def Kx(l:List UInt8):R:=if(l.takeWhile nm)∈words then⟨0,2,l.takeWhile nm,0,(l.takeWhile nm).length⟩else if 30<(l.takeWhile nm).length then bad 5 else⟨0,1,l.takeWhile nm,0,(l.takeWhile nm).length⟩
def KZ(l:List UInt8):R:=
 match unq l.tail with
 | none=>bad 4
 | some p=>if 1000<p.1.length then bad 5 else⟨0,4,p.1,0,p.2+1⟩
def ZM(l:List UInt8):R:=
 match marks.find? (fun m=>m.isPrefixOf l)with
 | none=>bad 2
 | some m=>⟨0,5,m,0,m.length⟩
def one(l:List UInt8):R:=
 match l with
 | []=>bad 2
 | b::_=>if dig b=true then ZV l else if beg b=true then Kx l else if b.toNat=34 then KZ l else ZM l
structure T where
 kind:Nat
 text:List UInt8
 n:Nat
 place:Nat
def scan:Nat->Nat->List UInt8->List T × Nat × Nat
 | 0,_,_=>([],0,0)
 | f+1,k,l=>
  if l.drop (Xl false l)=[]then([],0,0)
  else if(one (l.drop (Xl false l))).code≠0 then([],(one (l.drop (Xl false l))).code,k+Xl false l)
  else(⟨(one (l.drop (Xl false l))).kind,(one (l.drop (Xl false l))).text,(one (l.drop (Xl false l))).n,k+Xl false l⟩ ::
    (scan f (k+Xl false l+(one (l.drop (Xl false l))).size) ((l.drop (Xl false l)).drop (one (l.drop (Xl false l))).size)).1,
   (scan f (k+Xl false l+(one (l.drop (Xl false l))).size) ((l.drop (Xl false l)).drop (one (l.drop (Xl false l))).size)).2)
theorem drop_cons(s:ByteArray)(k:Nat)(h:k<s.size):s.data.toList.drop k=s[k]::s.data.toList.drop (k+1):=by
 rw[KM (by simpa using h)];rfl
theorem G5:∀(b:Bool) (l:List UInt8),Xl b l<=l.length:=by
 intro b l;induction l generalizing b with
 | nil=>simp[Xl]
 | cons x r a=>
  cases b<;>simp only[Xl,XI]
  .split
   .have:=a true;omega
   .split
    .have:=a false;omega
    .omega
  .split
   .have:=a false;omega
   .have:=a true;omega
theorem LY(p:UInt8->Bool)(l:List UInt8):(l.takeWhile p).length<=l.length:=by
 induction l with
 | nil=>simp
 | cons x r a=>simp only[V2];split<;>simp<;>omega
theorem Wi:∀(l:List UInt8) (t:List UInt8) (n:Nat),unq l=some (t,n)->1<=n/\n<=l.length/\t.length<n
 | [],t,n,h=>by simp[unq]at h
 | b::r,t,n,h=>by
  unfold unq at h;split at h
  .simp at h;obtain⟨rfl,rfl⟩:=h;simp
  .split at h
   .match r,h with
    | [],h=>simp at h
    | [_],h=>simp at h
    | x::y::r',h=>
     simp only at h;split at h
     .simp at h
     .rw[Option.map_eq_some_iff]at h;obtain⟨p,d,a⟩:=h;simp at a;obtain⟨rfl,rfl⟩:=a;have:=Wi r' p.1 p.2 d;simp;omega
   .split at h
    .simp at h
    .rw[Option.map_eq_some_iff]at h;obtain⟨p,d,a⟩:=h;simp at a;obtain⟨rfl,rfl⟩:=a;have:=Wi r p.1 p.2 d;simp;omega
theorem OF:∀m∈marks,1<=m.length/\m.length<=2:=by decide
theorem Vj(l:List UInt8)(h:(one l).code=0):1<=(one l).size/\(one l).size<=l.length:=by
 unfold one at h⊢
 match l,h with
 | [],h=>simp[bad]at h
 | b::r,h=>
  have j:nm b=true->1<=((b::r).takeWhile nm).length:=by intro g;simp[g]
  have d:=LY nm (b::r);simp only at h⊢;split at h
  .rename_i k;rw[Xa k];have:=j (by simp[nm,k]);unfold ZV at h⊢;split at h
   .rename_i a;rw[Xa a];exact⟨this,d⟩
   .simp[bad]at h
  .rename_i k;rw[X6 k];split at h
   .rename_i g;rw[Xa g];have:=j (by simp[nm,g]);unfold Kx at h⊢;split at h
    .rename_i a;rw[Xa a];exact⟨this,d⟩
    .rename_i a;rw[X6 a];split at h
     .simp[bad]at h
     .rename_i n;rw[X6 n];exact⟨this,d⟩
   .rename_i g;rw[X6 g];split at h
    .rename_i s;rw[Xa s];unfold KZ at h⊢;split at h
     .simp[bad]at h
     .rename_i p B;split at h
      .simp[bad]at h
      .rename_i a;rw[X6 a];have:=Wi r p.1 p.2 B;simp;omega
    .rename_i s;rw[X6 s];unfold ZM at h⊢;split at h
     .simp[bad]at h
     .rename_i m hm;have u:=List.mem_of_find?_eq_some hm;have v:=List.find?_some hm;have y:=OF m u;have A:m <+: (b::r):=V0.1 v;exact⟨y.1,A.length_le⟩
theorem CY:∀(f g k:Nat) (l:List UInt8),l.length<f->l.length<g->scan f k l=scan g k l
 | 0,_,_,_,h,_=>by omega
 | f+1,0,_,_,_,h=>by omega
 | f+1,g+1,k,l,hf,hg=>by
  unfold scan;by_cases a:l.drop (Xl false l)=[]
  .rw[Xa a,Xa a]
  .rw[X6 a,X6 a];by_cases d:(one (l.drop (Xl false l))).code≠0
   .rw[Xa d,Xa d]
   .rw[X6 d,X6 d];have j:=Vj _ (by omega:(one (l.drop (Xl false l))).code=0)
    have e:=CY f g (k+Xl false l+(one (l.drop (Xl false l))).size) ((l.drop (Xl false l)).drop (one (l.drop (Xl false l))).size)
     (by simp only[YC]at j⊢;omega) (by simp only[YC]at j⊢;omega)
    rw[e]
def from_(l:List UInt8)(k:Nat):List T × Nat × Nat:=scan (l.length+1) k (l.drop k)
theorem As(l:List UInt8)(k:Nat)(h:l.length<=k+Xl false (l.drop k)):from_ l k=([],0,0):=by
 unfold from_ scan;rw[Xa];rw[Ub,Mf];omega
theorem O3(l:List UInt8)(k:Nat)(a:Xl false (l.drop (k+Xl false (l.drop k)))=0):from_ l k=from_ l (k+Xl false (l.drop k)):=by
 unfold from_;conv=>lhs;unfold scan
 conv=>rhs;unfold scan
 rw[a,Ub,Kh,Vy]
theorem G6:∀(b:Bool) (l:List UInt8),Xl false (l.drop (Xl b l))=0:=by
 intro b l;induction l generalizing b with
 | nil=>simp[Xl]
 | cons x r a=>
  cases b
  .simp only[Xl];split
   .rw[V4,Vv];exact a true
   .split
    .rw[V4,Vv];exact a false
    .rename_i d g;rw[Kh];simp[Xl,d,g]
  .simp only[Xl];split
   .rw[V4,Vv];exact a false
   .rw[V4,Vv];exact a true
theorem Ar(l:List UInt8)(k:Nat)(g:k<l.length)(d:Xl false (l.drop k)=0)(a:(one (l.drop k)).code≠0):from_ l k=([],(one (l.drop k)).code,k):=by
 unfold from_ scan;rw[d,Kh,Vy,X6 (by rw[Mf];omega),Xa a]
theorem Au(l:List UInt8)(k:Nat)(j:k<l.length)(g:Xl false (l.drop k)=0)(d:(one (l.drop k)).code=0): from_ l k=(⟨(one (l.drop k)).kind,(one (l.drop k)).text,(one (l.drop k)).n,k⟩::(from_ l (k+(one (l.drop k)).size)).1,(from_ l (k+(one (l.drop k)).size)).2):=by
 have a:=Vj _ d;unfold from_;conv=>lhs;unfold scan
 rw[g,Kh,Vy,X6 (by rw[Mf];omega),X6 (by omega),Ub];rw[CY l.length (l.length+1) _ _ (by simp only[YC]at a⊢;omega) (by simp only[YC]at a⊢;omega)]
end Sc
end Go.Proofs.YtaeafhenpjnhiaaGreatDoor
namespace Go
abbrev Value.q(x:Int):Value:= .int .i64 x
abbrev Value.p(b:Nat):Value:= .pointer (some ⟨b,0,none⟩)
abbrev Value.l(g n c:Nat):Value:= .slice (some ⟨g,0,none⟩) n c
abbrev World.z(w:World)(a:Array Value)(t:TypeId):World:=w.alloc (.cells a t)
abbrev Value.t(a:Array UInt8):Value:= .string ⟨a⟩
abbrev World.c(w:World)(b i:Nat):Option Value:=w.cell? ⟨b,i,none⟩
theorem Xw{P:Program}{fn:Func}{R:Ending->World->Prop}{a:Act}{w:World}{e:Exit}(h:R (.returned (.tuple #[])) w)(j:e= .normal\/e= .ret:=by first|exact .inl rfl|exact .inr rfl)(g:fn.results=#[]:=by rfl)(d:a.defers=[]:=by rfl):bodyPost P fn R e a w:=by
 rcases j with rfl|rfl
 .exact bodyPost_end (results_none g _ _ _) d h
 .exact bodyPost_ret (results_none g _ _ _) d h
end Go
namespace Go.Proofs.YtaeafhenpjnhiaaGreatDoor
open Tryz Go.RowKit
abbrev CB(f:FuncId)(a:Array Value)(w:World)(v:Value):Prop:=Calls prog f a w fun e w'=>e= .returned v/\Below w.heap.size w w'
abbrev CS(f:FuncId)(a:Array Value)(w:World)(v:Value):Prop:=Calls prog f a w fun e w'=>e= .returned v/\w'=w
end Go.Proofs.YtaeafhenpjnhiaaGreatDoor
namespace Go.RowKit
theorem Hid.o{p:Prop}(h:Hid p):p:=h
end Go.RowKit
namespace Go.Proofs.YtaeafhenpjnhiaaGreatDoor
open Tryz Go.RowKit
theorem bA{w:World}(o:Obj):Below w.heap.size w (w.alloc o):=(X8 _ _).alloc (X5 _) o
theorem X1{p:Prop}(h:p):Hid p:=h
theorem Xn{a b:Bool}(h:a=b):Ending.returned (.bool a)= .returned (.bool b):=by rw[h]
theorem ZQ{k:IntKind}{a b:Int}(h:a=b):Ending.returned (.int k a)= .returned (.int k b):=by rw[h]
def Xs(a lo hi:Int):Bool:=decide (lo<=a/\a<=hi)
theorem KP{a lo hi:Int}(h:Xs a lo hi=true):lo<=a/\a<=hi:=by simpa[Xs]using h
theorem KG(b:UInt8)(w:World):CS 88 #[.int .u8 b.toNat] w (.bool (Sc.dig b)):=by
 by_cases a:48<=(b.toNat:Int);all_goals by_cases d:(b.toNat:Int)<=57
 all_goals
  go_enter func88,ntmps88;go_wp2;go_ret;exact⟨Xn (by simp[Sc.dig];omega),rfl⟩
theorem UL(b:UInt8)(w:World):CS 74 #[.int .u8 b.toNat] w (.bool (Sc.beg b)):=by
 by_cases a:97<=(b.toNat:Int);all_goals by_cases d:(b.toNat:Int)<=122
 all_goals
  go_enter func74,ntmps74;go_wp2;go_ret;exact⟨Xn (YH.2 (by simp[Sc.beg];omega)),rfl⟩
theorem QJ(b:UInt8)(w:World):CS 77 #[.int .u8 b.toNat] w (.bool (Sc.nm b)):=by
 have a:Sc.nm b=(Sc.beg b||Sc.dig b):=rfl;rw[a];clear a;cases d:Sc.beg b;all_goals
  go_enter func77,ntmps77;go_wp2_with(first|(go_at_call 74;go_fit(UL _ _);rintro e w'⟨rfl,rfl⟩)|(go_at_call 88;go_fit(KG _ _);rintro e w'⟨rfl,rfl⟩));go_ret;exact⟨Xn (by simp),rfl⟩
def Wo(w:World)(b:Nat)(l:List (List UInt8)):Prop:=∀i (h:i<l.length),w.cell? ⟨b,i,none⟩=some (.string ⟨(l[i]).toArray⟩)
theorem AE(l:List (List UInt8))(b:Nat)(s:ByteArray)(w:World)(v:l.length<=1000)(m:Wo w b l): CS 75 #[.l b l.length l.length,.string s] w (.bool (decide (s.data.toList∈l))):=by
 go_enter func75,ntmps75;go_wp2;go_loop[5] (fun t=>∃j:Nat,j<=l.length/\t= .q j/\∀i (h:i<l.length),i<j->l[i]≠s.data.toList) (fun t=>l.length-(intOf t).toNat)
 case atStart=>exact⟨0,Xb _,rfl,fun i _ h=>by omega⟩
 case round=>
  obtain⟨j,u,rfl,k⟩:=hrel;have g:=X1 k;clear k;by_cases d:j<l.length
  .have n:=m j d;cases a:(l[j]==s.toList)
   .go_wp2;go_round
    case rel=>
     refine⟨j+1,by omega,by go_num,?_⟩;intro i hi r;by_cases e:i=j
     .subst e;rw[Js]at a;simpa using a
     .exact g.o i hi (by omega)
    case measure=>simp[intOf];omega
   .go_wp2;go_ret;refine⟨Xn ?_,rfl⟩;rw[Js]at a;have e:l[j]=s.data.toList:=by simpa using a
    rw[eq_comm,J2,←e];exact YJ _
  .go_wp2;go_ret;refine⟨Xn ?_,rfl⟩;rw[eq_comm,decide_eq_false_iff_not];intro hm;obtain⟨i,hi,e⟩:=Ro hm;exact g.o i hi (by omega) e
theorem YV(w:World)(o:Obj):(w.alloc o).heap[w.heap.size]?=some o:=(Go.MapKept.heap_alloc w o).1
theorem OA(w:World)(t:TypeId)(l:List (List UInt8)):Wo (w.alloc (.cells (l.map fun x=>Value.string ⟨x.toArray⟩).toArray t)) w.heap.size l:=by
 intro i h;rw[World.cell?,YV];simp[h]
theorem I2(w:World):Calls prog 76 #[] w fun e w'=>e= .returned (.l w.heap.size 17 17)/\Below w.heap.size w w'/\w.heap.size<w'.heap.size/\Wo w' w.heap.size Sc.words:=by
 go_enter func76,ntmps76;go_wp2;go_ret;refine⟨rfl,bA _,by simp,?_⟩;exact OA w 9 Sc.words
theorem ZD(a lo hi:Int)(w:World):CS 39 #[.q a,.q lo,.q hi] w (.bool (Xs a lo hi)):=by
 by_cases d:lo<=a;all_goals by_cases g:a<=hi
 all_goals
  go_enter func39,ntmps39;go_wp2;go_ret;exact⟨Xn (by simp[Xs,d,g]),rfl⟩
theorem Ui(a:Int)(w:World):CS 69 #[.q a] w (.bool (Xs a 1 16)):=by
 go_enter func69,ntmps69;go_wp2_with(go_at_call 39;go_fit(ZD _ _ _ _);rintro e w'⟨rfl,rfl⟩);go_ret;exact⟨rfl,rfl⟩
def QD(b:UInt8):Bool:=decide (97<=(b.toNat:Int))&&decide ((b.toNat:Int)<=122)||Sc.dig b||!((b.toNat:Int)!=95)||!((b.toNat:Int)!=45)||!((b.toNat:Int)!=46)||!((b.toNat:Int)!=47)
def Kt(p:UInt8->Bool):List UInt8->Bool
 | []=>true
 | b::r=>p b&&Kt p r
theorem VC(p:UInt8->Bool)(b:UInt8)(r:List UInt8):Kt p (b::r)=(p b&&Kt p r):=rfl
def U0(s:ByteArray):Bool:=Xs s.size 1 30&&Kt QD s.data.toList
def K6(s:ByteArray):Bool:=Xs s.size 1 30&&(s.data.toList.head?.map Sc.beg==some true)&&!decide (s.data.toList∈Sc.words)&&Kt Sc.nm s.data.toList
theorem JT(s:ByteArray)(w:World):CS 68 #[.string s] w (.bool (U0 s)):=by
 cases hi:Xs s.size 1 30
 .go_enter func68,ntmps68;go_wp2_with(go_at_call 39;go_fit(ZD _ _ _ _);rintro e w'⟨rfl,rfl⟩);go_ret;exact⟨Xn (by simp[U0,hi]),rfl⟩
 .obtain⟨J,K⟩:=KP hi;have a:U0 s=Kt QD s.data.toList:=by simp[U0,hi]
  rw[a];clear a;go_enter func68,ntmps68;go_wp2_with(go_at_call 39;go_fit(ZD _ _ _ _);rintro e w'⟨rfl,rfl⟩);go_loop[3] (fun t=>∃j:Nat,j<=s.size/\t= .q j/\Kt QD s.data.toList=Kt QD (s.data.toList.drop j)) (fun t=>s.size-(intOf t).toNat)
  case atStart=>exact⟨0,Xb _,rfl,by simp⟩
  case round=>
   obtain⟨j,L,rfl,C⟩:=hrel;have m:=X1 C;clear C;by_cases g:j<s.size
   .have I:=X1 (Sc.drop_cons s j g);have B:QD s[j]=(decide (97<=(s[j].toNat:Int))&&decide ((s[j].toNat:Int)<=122)||Sc.dig s[j]||!((s[j].toNat:Int)!=95)||!((s[j].toNat:Int)!=45)||!((s[j].toNat:Int)!=46)||!((s[j].toNat:Int)!=47)):=rfl;have k:=X1 B;clear B;have fin:∀b,QD s[j]=b->Kt QD s.data.toList=(b&&Kt QD (s.data.toList.drop (j+1))):=by
     intro b e;rw[m.o,I.o,VC,e]
    have E:=X1 fin;clear fin;by_cases F:97<=(s[j].toNat:Int);all_goals by_cases H:(s[j].toNat:Int)<=122
    all_goals cases r:Sc.dig s[j]
    all_goals cases u:((s[j].toNat:Int)!=95)
    all_goals cases v:((s[j].toNat:Int)!=45)
    all_goals cases y:((s[j].toNat:Int)!=46)
    all_goals cases A:((s[j].toNat:Int)!=47)
    all_goals first|(exfalso;have:=k.o;simp[Sc.dig]at r u v y A;omega)|skip
    all_goals
     have d:=k.o;rw[r,u,v,y,A]at d;simp[F,H]at d;have n:=X1 (E.o _ d);clear d;go_wp2_with(go_at_call 88;go_fit(KG _ _);rintro e w'⟨rfl,rfl⟩);first
     | (go_ret;exact⟨Xn (by rw[n.o];rfl),rfl⟩)
     | (go_round
        case rel=>exact⟨j+1,by omega,by go_num,by rw[n.o];rfl⟩
        case measure=>simp[intOf];omega)
   .go_wp2;go_ret;refine⟨Xn ?_,rfl⟩;have e:=m.o;rw[YI (i:=j) (by simp;omega)]at e;rw[e];rfl
theorem AF(s:ByteArray)(w:World)(b:Nat)(a:Wo w b Sc.words): CS 75 #[.l b 17 17,.string s] w (.bool (decide (s.data.toList∈Sc.words))):=AE Sc.words b s w (by decide) a
theorem Jj(s:ByteArray)(w:World):CB 47 #[.string s] w (.bool (K6 s)):=by
 cases hi:Xs s.size 1 30
 .go_enter func47,ntmps47;go_wp2_with(go_at_call 39;go_fit(ZD _ _ _ _);rintro e w'⟨rfl,rfl⟩);go_ret;exact⟨Xn (by simp[K6,hi]),X8 _ _⟩
 .obtain⟨A,B⟩:=KP hi;have m:0<s.size:=by omega
  have u:s.data.toList.head?=some s[0]:=by have:=Sc.drop_cons s 0 m;rw[Kh]at this;rw[this];rfl
  have v:K6 s=(Sc.beg s[0]&&!decide (s.data.toList∈Sc.words)&&Kt Sc.nm s.data.toList):=by simp[K6,hi,u]
  rw[v];clear v u;cases F:Sc.beg s[0]
  .go_enter func47,ntmps47;go_wp2_with(first|(go_at_call 39;go_fit(ZD _ _ _ _);rintro e w'⟨rfl,rfl⟩)|(go_at_call 74;go_fit(UL _ _);rintro e w'⟨rfl,rfl⟩));go_ret;exact⟨rfl,X8 _ _⟩
  .cases I:decide (s.data.toList∈Sc.words)
   .go_enter func47,ntmps47;go_wp2_with(first|(go_at_call 39;go_fit(ZD _ _ _ _);rintro e w'⟨rfl,rfl⟩)|(go_at_call 74;go_fit(UL _ _);rintro e w'⟨rfl,rfl⟩)|(go_at_call 76;go_fit(I2 _);rintro e E⟨rfl,a,C,d⟩)|(go_at_call 75;go_fit(AF s _ _ d);rintro e w'⟨rfl,rfl⟩));go_loop[3] (fun t=>∃j:Nat,j<=s.size/\t= .q j/\Kt Sc.nm s.data.toList=Kt Sc.nm (s.data.toList.drop j)) (fun t=>s.size-(intOf t).toNat)
    case atStart=>exact⟨0,Xb _,rfl,by simp⟩
    case round=>
     obtain⟨j,H,rfl,r⟩:=hrel;have g:=X1 r;clear r;by_cases k:j<s.size
     .have n:=X1 (Sc.drop_cons s j k);cases y:Sc.nm s[j]
      .go_wp2_with(go_at_call 77;go_fit(QJ _ _);rintro e w'⟨rfl,rfl⟩);go_ret;refine⟨Xn ?_,a⟩;rw[g.o,n.o,VC,y];rfl
      .go_wp2_with(go_at_call 77;go_fit(QJ _ _);rintro e w'⟨rfl,rfl⟩);go_round
       case rel=>exact⟨j+1,by omega,by go_num,by rw[g.o,n.o,VC,y];rfl⟩
       case measure=>simp[intOf];omega
     .go_wp2;go_ret;refine⟨Xn ?_,a⟩;have e:=g.o;rw[YI (i:=j) (by simp;omega)]at e;rw[e];rfl
   .go_enter func47,ntmps47;go_wp2_with(first|(go_at_call 39;go_fit(ZD _ _ _ _);rintro e w'⟨rfl,rfl⟩)|(go_at_call 74;go_fit(UL _ _);rintro e w'⟨rfl,rfl⟩)|(go_at_call 76;go_fit(I2 _);rintro e E⟨rfl,a,C,d⟩)|(go_at_call 75;go_fit(AF s _ _ d);rintro e w'⟨rfl,rfl⟩));go_ret;exact⟨rfl,a⟩
structure Nd where
 kind:Int
 op:Int
 n:Int
 text:ByteArray
 kids:Int
def Nd.cells(x:Nd):List Value:=[.q x.kind,.q x.op,.q x.n,.string x.text,.q x.kids]
def Xh(l:List Nd):List Value:=l.flatMap Nd.cells
def K1(w:World)(g:Nat)(l:List Nd):Prop:=g<w.heap.size/\∀i (h:i<l.length),w.cell? ⟨g,i*5,none⟩=some (.q l[i].kind)/\w.cell? ⟨g,i*5+1,none⟩=some (.q l[i].op)/\w.cell? ⟨g,i*5+2,none⟩=some (.q l[i].n)/\w.cell? ⟨g,i*5+3,none⟩=some (.string l[i].text)/\w.cell? ⟨g,i*5+4,none⟩=some (.q l[i].kids)
theorem K1.below{w w':World}{g:Nat}{l:List Nd}(h:K1 w g l)(j:BL w w'):K1 w' g l:=by
 refine⟨XH h.1 j.size,fun i hi=>?_⟩;obtain⟨a,b,c,d,e⟩:=h.2 i hi;exact⟨(j.cell (p:=⟨g,i*5,none⟩) h.1).trans a,(j.cell (p:=⟨g,i*5+1,none⟩) h.1).trans b,(j.cell (p:=⟨g,i*5+2,none⟩) h.1).trans c,(j.cell (p:=⟨g,i*5+3,none⟩) h.1).trans d,(j.cell (p:=⟨g,i*5+4,none⟩) h.1).trans e⟩
def YZ(w:World)(g o:Nat)(l:List Nat):Prop:=g<w.heap.size/\∀j (h:j<l.length),w.cell? ⟨g,o+j,none⟩=some (.q l[j])
theorem YZ.below{w w':World}{g o:Nat}{l:List Nat}(h:YZ w g o l)(a:BL w w'):YZ w' g o l:=⟨XH h.1 a.size,fun j d=>(a.cell (p:=⟨g,o+j,none⟩) h.1).trans (h.2 j d)⟩
theorem YZ.drop{w:World}{g o:Nat}{l:List Nat}(h:YZ w g o l)(k:Nat):YZ w g (o+k) (l.drop k):=⟨h.1,fun j a=>by have:=h.2 (k+j) (by simp at a;omega);rw[List.getElem_drop,←this,Nat.add_assoc]⟩
def Yq(k:Int):Bool:=k==4||k==5||k==11||k==14||Xs k 16 21||k==23
def Xr(x:Nd):Bool:=
 if(!Yq x.kind&&!(x.text.toList==[])||(x.kind !=2&&x.kind !=3&&x.n !=0)||(x.kind !=6&&x.kind !=7&&x.op !=0))=true then false
 else if x.kind=2 then x.n==0||x.n==1
 else if x.kind=3 then decide (0<=x.n)
 else if x.kind=4\/x.kind=17 then decide ((x.text.size:Int)<=1000)
 else if x.kind=6 then Xs x.op 1 2
 else if x.kind=7 then Xs x.op 1 14
 else if x.kind=23 then U0 x.text
 else !Yq x.kind||K6 x.text
theorem Hy(k:Int):k=2\/k=3\/k=4\/k=5\/k=11\/k=14\/k=6\/k=7\/k=17\/k=23\/(Xs k 16 21=true/\k≠17)\/(Yq k=false/\Xs k 16 21=false/\k≠2/\k≠3/\k≠4/\k≠5/\k≠11/\k≠14/\k≠6/\k≠7/\k≠17/\k≠23):=by
 by_cases h:Xs k 16 21=true
 .by_cases a:k=17
  .simp[a]
  .simp[h,a]
 .simp[Yq];simp at h;simp[h];omega
