import Derived.Test.YtkoiikmhfaebnaaGreatDoorB11
import Derived.Test.YtkoiikmhfaebnaaGreatDoorB29
import Derived.Test.YtkoiikmhfaebnaaGreatDoorB31
set_option maxHeartbeats 4000000
set_option maxRecDepth 100000
namespace Go.Proofs.YtkoiikmhfaebnaaGreatDoor
open Tryz Go.RowKit
theorem X8m:(prog.info? 296).map (fun i=>(i.zero,i.size,i.bytes))=some (some (.agg #[.string ⟨#[]⟩,.slice none 0 0,.int .i64 0,.int .i64 0]),4,56):=by kernel_rfl
theorem X8o:(prog.info? 3).map (fun i=>(i.zero,i.size,i.bytes))=some (some (.int .i64 0),1,8):=by kernel_rfl
theorem FnC.snoc[LB]{w:World}{l:List Value}{m:Nat}(h:FnC w l m)(a:l.length=m*4)(s:XC)(pv:Value)(c:List Int)(f z:Int)(A:w.ownsRow 0 3 1 pv c.length (c.map (Value.int .i64)))(j:c.length<=3)(d:0<=f)(g:f<=3):FnC w (l++[.string s,pv,.int .i64 f,.int .i64 z]) (m+1):=fun i hi=>by
 by_cases y:i<m
 .obtain⟨B,k,ps',n,C,q,r,t,u,v⟩:=h i y
  exact⟨B,k,ps',n,C,by rw[QY (by omega)];exact q,by rw[QY (by omega)];exact r,by rw[QY (by omega)];exact t,by rw[QY (by omega)];exact u,v⟩
 .obtain rfl:i=m:=by omega
  refine⟨s,pv,c,f,z,?_,?_,?_,?_,A,j,d,g⟩
  .rw[K6 (by omega),a,show i*4-i*4=0 from by omega];rfl
  .rw[K6 (by omega),a,show i*4+1-i*4=1 from by omega];rfl
  .rw[K6 (by omega),a,show i*4+2-i*4=2 from by omega];rfl
  .rw[K6 (by omega),a,show i*4+3-i*4=3 from by omega];rfl
theorem Gn.Y0v[LB]{gb rb:Nat}{vb:Value}{n q k:Nat}{w w':World}(h:Gn gb rb vb n q k w){v v':Value}(I:w.cell? ⟨gb,2,none⟩=some v)(H:w.grownBy w' v.ownBlock){u:Nat}{D:List Value}(hx:w'.ownsRow (rb+1) 296 4 v' u D)(Z:FnC w' D u)(W:u<=1000):Gn gb rb vb n q k (w'.setCell ⟨gb,2,none⟩ v'):=by
 have V:=h.lt;have A:=h.up;obtain⟨L,m0,a0,E,F,f3,f4⟩:=h.fn;obtain rfl:L=v:=by rw[E]at I;exact YD I
 have own:∀b,L.ownBlock=some b->rb+1<=b/\Xm w b=some 296:=fun b l=>⟨(F.lt b l).1,Q5 F l⟩;have J:∀t,t≠296->∀q,q<w.heap.size->Xm w q=some t->w'.heap[q]?=w.heap[q]?:=fun t ht q y d=>H.block q y (fun e=>by have:=(own q e.symm).2;rw[d]at this;exact ht (YD this));have s:=J _ (by decide) gb V h.ty;have d:Xm w' gb=some 150:=(Q6 s).trans h.ty;have r:∀j,j≠2->(w'.setCell ⟨gb,2,none⟩ v').cell? ⟨gb,j,none⟩=w.cell? ⟨gb,j,none⟩:=fun j S=>(Zs _ _ _ _ (fun e=>S (Zd Addr.off e).symm)).trans (Xy (a:=⟨gb,j,none⟩) s);have K:∀b,b≠gb->(w'.setCell ⟨gb,2,none⟩ v').heap[b]?=w'.heap[b]?:=fun b l=>Y4 _ _ _ _ l;have C:∀t,t≠296->t≠150->∀q,q<w.heap.size->Xm w q=some t->(w'.setCell ⟨gb,2,none⟩ v').heap[q]?=w.heap[q]?:=fun t M N q y g=>(K q (fun e=>by rw[e,h.ty]at g;exact N (YD g).symm)).trans (J t M q y g);obtain⟨p,X,Y⟩:=h.R;obtain⟨vn,xs,n1,n2,n3⟩:=h.nm;obtain⟨c,hc,P⟩:=h.ct;obtain⟨z,hz,B,Q⟩:=h.sz;exact⟨⟨p,X,Y.Uw (fun b l=>(K b (by omega)).trans (H.block b (by omega) (fun e=>by have:=(own b e.symm).1;omega)))⟩,A,by rw[Dp];exact d,(r 0 (by decide)).trans h.c0,⟨vn,xs,(r 1 (by decide)).trans n1,KK n2 (C _ (by decide) (by decide)),n3⟩,⟨v',u,D,JM _ _ _ ((Xy (a:=⟨gb,2,none⟩) s).trans E),Kc hx (by rw[d];decide),W,Z.XH (fun q' _ m=>Y4 _ _ _ _ (fun e=>by have e':q'=gb:=e;rw[e',d]at m;cases m))⟩,⟨c,by omega,(r 3 (by decide)).trans P⟩,⟨z,by omega,B,(r 4 (by decide)).trans Q⟩,fun j=>by rw[LM];exact(KU (a:=⟨gb,j,none⟩) s).trans (h.fr j),h.km⟩
theorem Rx:Maps.Keyed prog 9:=Maps.string_keyed underlying9
theorem Y6z(w:World):(zeroValue 247).run prog w= .ok (.agg #[]) w:=by kernel_rfl
end Go.Proofs.YtkoiikmhfaebnaaGreatDoor
namespace Go.Proofs
def Tryz.Xau:Go.Shelf.Ren:=⟨fun|137=>214|217=>248|266=>262|n=>n,fun|9=>9|5=>5|3=>3|n=>n,fun|n=>n⟩
theorem Tryz.Xat:Go.Proofs.Lays.n137 Tryz.prog Tryz.Xau:={
 mixed:=by kernel_rfl
 f137:=Tryz.func214.trans (congrArg some (by kernel_rfl))
 f217:=Tryz.func248.trans (congrArg some (by kernel_rfl))
 f266:=Tryz.func262.trans (congrArg some (by kernel_rfl))
 t3:=Tryz.underlying3
 a3:=Tryz.isAgg3
 z3:=Tryz.sizeOf3
 v3:=Tryz.zeroValue3
 t5:=Tryz.underlying5
 a5:=Tryz.isAgg5
 z5:=Tryz.sizeOf5
 v5:=Tryz.zeroValue5
 t9:=Tryz.underlying9
 a9:=Tryz.isAgg9
 z9:=Tryz.sizeOf9
 v9:=Tryz.zeroValue9}
open Go.RowKit in
theorem Tryz.strings_IndexByte(s:ByteArray)(c:Int)(w:World): Calls Tryz.prog 214 #[.string s,.int .u8 c] w fun e w'=>e= .returned (.int .i64 (Lib.indexByte s.data.toList c.toNat.toUInt8))/\w'=w:=Any.strings_IndexByte Tryz.Xat s c w
end Go.Proofs
namespace Go.Proofs.YtkoiikmhfaebnaaGreatDoor
open Tryz Go.RowKit
theorem Rc(b:UInt8)(w:World):Calls prog 215 #[.int .u8 b.toNat] w fun e w'=>e= .returned (.bool (Sc.dig b))/\w'=w:=by
 by_cases a:48<=(b.toNat:Int);all_goals by_cases c:(b.toNat:Int)<=57
 all_goals
  go_enter func215,ntmps215;go_wp2;go_ret;exact⟨Xf (by simp[Sc.dig];omega),rfl⟩
theorem IG(b:UInt8)(w:World):Calls prog 213 #[.int .u8 b.toNat] w fun e w'=>e= .returned (.bool (Sc.nm b))/\w'=w:=by
 have c:Sc.nm b=(Sc.beg b||Sc.dig b):=rfl;rw[c];clear c;have a:Sc.beg b=(decide (97<=(b.toNat:Int))&&decide ((b.toNat:Int)<=122)||((b.toNat:Int)==95)):=by rw[Y5];simp[Sc.beg];omega
 have d:=X1 a;clear a;by_cases g:97<=(b.toNat:Int);all_goals by_cases j:(b.toNat:Int)<=122
 all_goals cases k:((b.toNat:Int)==95)
 all_goals
  go_enter func213,ntmps213;go_wp2_with(go_at_call 215;refine(Rc _ _).mono ?_;rintro e w'⟨rfl,rfl⟩);go_ret;exact⟨Xf (by rw[d.o];simp[g,j,k];try omega),rfl⟩
theorem Tr.Y4f{b:UInt8}{r:List UInt8}(h:Sc.nm b=false):(b::r).takeWhile Sc.nm=[]:=by simp[h]
theorem Tr.Y4g{b:UInt8}{r:List UInt8}(h:Sc.nm b=true):((b::r).takeWhile Sc.nm).length=(r.takeWhile Sc.nm).length+1:=by simp[h]
theorem Xcj(s:ByteArray)(w:World)(m:s.size<=1048576): Calls prog 216 #[.string s] w fun e w'=>e= .returned (.int .i64 ((s.data.toList.takeWhile Sc.nm).length:Nat))/\w'=w:=by
 go_enter func216,ntmps216;go_wp2;go_loop[3] (fun t=>∃j:Nat,j<=s.size/\t= .int .i64 j/\j+((s.data.toList.drop j).takeWhile Sc.nm).length=(s.data.toList.takeWhile Sc.nm).length) (fun t=>s.size-(intOf t).toNat)
 case atStart=>exact⟨0,X6 _,rfl,by simp⟩
 case round=>
  obtain⟨j,l,rfl,g⟩:=hrel;have a:=X1 g;clear g;by_cases c:j<s.size
  .have d:=X1 (Sc.drop_cons s j c);cases k:Sc.nm s[j]
   .go_wp2_with(go_at_call 213;refine(IG _ _).mono ?_;rintro e w'⟨rfl,rfl⟩);go_ret;refine⟨Jy ?_,rfl⟩;have e:=a.o;rw[d.o,Tr.Y4f k]at e;simp at e;omega
   .go_wp2_with(go_at_call 213;refine(IG _ _).mono ?_;rintro e w'⟨rfl,rfl⟩);go_round
    case rel=>
     refine⟨j+1,by omega,by go_num,?_⟩;have e:=a.o;rw[d.o,Tr.Y4g k]at e;omega
    case measure=>simp[intOf];omega
  .go_wp2;go_ret;refine⟨Jy ?_,rfl⟩;have e:=a.o;rw[Yu (i:=j) (by simp;omega)]at e;simp at e;omega
def Sc.KM{H:Type}:DataW H:=Maps.setOf (.agg []) (Sc.words.map Lit.string)
theorem Sc.X7e{H:Type}(l:List UInt8):Maps.has (Sc.KM (H:=H)) (.string l)=decide (l∈Sc.words):=by
 unfold Sc.KM;rw[Maps.has_setOf]
 .rw[Y5];simp[Lit.sameKey]
 .intro x a;simp only[Zq]at a;obtain⟨y,_,rfl⟩:=a;trivial
theorem QA{H:Type}{P:Program}(w:World){r:Array Oper}{c:List Oper}{o:Oper}{a:Act}{Q:Exit->Act->World->Prop}(A:o.guard=none)(m x v:Operand)(t:TypeId)(u:o.op=Op.insert t m x v)(k e:TypeId)(K:Maps.Keyed P k)(E:P.underlying t=some (.map k e))(R:Value->Option (DataW H × List MemPlace))(b n:Nat)(D:DataW H)(B:a.eval m= .map (some b))(j:w.ownsMap P k R b n D)(C:n<maxLen)(q val:Value)(y:Lit)(I:a.eval x=q)(F:a.eval v=val)(g:keyOf P k q=some y)(d:DataW H)(J:List MemPlace)(l:R val=some (d,J))(z:∀w',w'.ownsMap P k R b (n+1) (D.put y d)->w.grownBy w' (some b)->wpList P r Q c (a.put o.dst undef) w'): wpList P r Q (o::c) a w:=by
 refine wpList_plain A fun N s=>?_;obtain⟨w',ZL,L,M⟩:=j.update K E C g l;unfold Oper.wp;simp[execOp,u,B,I,F,ZL,Result.andThen];exact s _ _ (z w' L M)
theorem FW(w:World):Calls prog 84 #[] w fun e w'=>e= .returned (.map (some w.heap.size))/\w'.ownsMap (H:=Unit) prog 9 unitElem w.heap.size 17 Sc.KM/\Below w.heap.size w w':=by
 have j:=@Gp prog;have c:=Ic (H:=Unit) w prog 9 unitElem;have a:BL w (w.alloc (.map #[] 0)):=bA _;go_enter func84,ntmps84;go_wp2_with(show wpList _ _ _ ({dst:=_,op:=Op.insert _ _ _ _,type:=_,pos:=_,after:=_,guard:=_}::_) _ _;go_must (refine QA _ rfl _ _ _ 152 rfl 9 247 Rx underlying152 _ w.heap.size _ _ rfl c (by unfold maxLen;decide) _ _ _ rfl rfl (Ib underlying9 (by unfold maxLen;decide)) _ [] unitElem_mk ?_);go_must (intro w1 g d;replace a:=a.grown d a.size (fun k e=>by cases e;exact X4 _);replace c:=g;clear g d));go_ret;exact⟨rfl,c,a⟩
theorem Tr.Fp(l:List UInt8):KA Sc.nm l=decide ((l.takeWhile Sc.nm).length=l.length):=by
 induction l with
 | nil=>rfl
 | cons b r a=>
  rw[DK,a];cases h:Sc.nm b
  .simp[h]
  .simp[h]
theorem Tr.X0t(b:UInt8)(h:Sc.nm b=true):Sc.beg b=!Sc.dig b:=by
 have c:Sc.nm b=(Sc.beg b||Sc.dig b):=rfl;have:Sc.beg b=true->Sc.dig b=false:=by intro h;simp[Sc.beg,Sc.dig]at h⊢;omega
 cases a:Sc.beg b
 .rw[c,a]at h;simp at h;simp[h]
 .rw[this a];rfl
theorem Tr.Xci(s:ByteArray)(h:0<s.size):KT s=(!decide (30<(s.size:Int))&&!Sc.dig s[0]&&!decide (s.data.toList∈Sc.words)&&decide ((s.data.toList.takeWhile Sc.nm).length=s.size)):=by
 have d:s.data.toList=s[0]::s.data.toList.drop 1:=by simpa using Sc.drop_cons s 0 h
 have k:s.data.toList.head?=some s[0]:=by rw[d];rfl
 have g:s.data.toList.length=s.size:=by simp
 unfold KT;rw[k,Tr.Fp,g];have j:Xl s.size 1 30=!decide (30<(s.size:Int)):=by unfold Xl;rw[Y5];simp;omega
 rw[j];by_cases c:(s.data.toList.takeWhile Sc.nm).length=s.size
 .have a:KA Sc.nm s.data.toList=true:=by rw[Tr.Fp,g];simpa using c
  rw[d,DK,XD]at a;rw[Vi,Tr.X0t _ a.1];cases Sc.dig s[0]<;>simp
 .simp[c]
theorem Tr.Xch(s:ByteArray)(h:s.size=0):KT s=false:=by
 unfold KT;rw[h];rfl
theorem X0s(s:ByteArray):(s.toList==[])=decide (s.size=0):=by
 rw[Dz,Y5];simp[←Array.size_eq_zero_iff]
theorem Rl(k o n c:Int)(t:ByteArray)(p:Option Addr)(l q:Nat)(w:World): Calls prog 304 #[Ip.pv ⟨k,o,n,t,c⟩ (.slice p l q)] w fun e w'=>e= .returned (.bool (decide (1<=k/\k<=4)))/\Below w.heap.size w w':=by
 have r:=Dc k o n c t (.slice p l q);have Q:=X1 (D5 k o n c t (.slice p l q) ⟨_,_,_,rfl⟩ w);have m:=X1 (fun w=>Bf k o n c t w);generalize decide (1<=k/\k<=4)=b at m⊢;unfold Ip.pv;go_enter func304,ntmps304;go_wp2_with fail;refine Q.o.mono ?_;rintro e w1⟨rfl,d⟩;have a:=X1 d;clear d Q;go_wp2_with fail;refine(m.o _).mono ?_;rintro e s⟨rfl,g⟩;have j:=X1 (a.o.trans (g.mono a.o.size));clear g m;go_wp2;go_ret;exact⟨rfl,j.o⟩
theorem LW(b:Bool)(w:World):Calls prog 161 #[.bool b] w fun e w'=>e= .returned (.int .i64 (if b then 1 else 0))/\w'=w:=by
 cases b <;>
 .go_enter func161,ntmps161;go_wp2;go_ret;exact⟨rfl,rfl⟩
end Go.Proofs.YtkoiikmhfaebnaaGreatDoor
namespace Go.Proofs.YtkoiikmhfaebnaaGreatDoor.Vl
open Tryz Go.RowKit T.atoms T.ok T.high T.Y0 T.Ko Xs T.ord
def UK:Value->Option (DataW Value × List MemPlace):=fun v=>some (.held v,[])
theorem Qv:Maps.Keyed prog 3:=Maps.int_keyed underlying3
theorem QA{H:Type}{P:Program}(w:World){r:Array Oper}{c:List Oper}{o:Oper}{a:Act}{Q:Exit->Act->World->Prop}(A:o.guard=none)(m x v:Operand)(t:TypeId)(u:o.op=Op.insert t m x v)(k e:TypeId)(K:Maps.Keyed P k)(E:P.underlying t=some (.map k e))(R:Value->Option (DataW H × List MemPlace))(b n:Nat)(D:DataW H)(B:a.eval m= .map (some b))(j:w.ownsMap P k R b n D)(C:n<maxLen)(q val:Value)(y:Lit)(I:a.eval x=q)(F:a.eval v=val)(g:keyOf P k q=some y)(d:DataW H)(J:List MemPlace)(l:R val=some (d,J))(z:∀w',w'.ownsMap P k R b (n+1) (D.put y d)->w.grownBy w' (some b)->wpList P r Q c (a.put o.dst undef) w'): wpList P r Q (o::c) a w:=by
 refine wpList_plain A fun N s=>?_;obtain⟨w',ZL,L,M⟩:=j.update K E C g l;unfold Oper.wp;simp[execOp,u,B,I,F,ZL,Result.andThen];exact s _ _ (z w' L M)
theorem Da{H:Type}{w w1:World}{P:Program}{k b n:Nat}{R:Value->Option (DataW H × List MemPlace)}{D:DataW H}(h:w.ownsMap P k R b n D)(l:BL w w1):w1.ownsMap P k R b n D:=by
 obtain⟨g,a,d,j⟩:=h;have c:b<w.heap.size:=(Kh.1 d).1;exact⟨g,a,(l.block b c).trans d,j⟩
theorem Qt(k:Int)(h:(Lit.int .i64 k).wf=true):keyOf prog 3 (.int .i64 k)=some (.int .i64 k):=Maps.keyOf_int_mk underlying3 h
theorem Hc(w:World):(zeroValue 71).run prog w= .ok (.agg #[.int .i64 0,.nilFunc]) w:=by kernel_rfl
def Us:Nat->List (Nat × Nat)->DataW Value->DataW Value
 | _,[],D=>D
 | k,x::r,D=>Us (k+1) r (D.put (.int .i64 (k+1:Nat)) (.held (Xt 2 x.1 x.2)))
def VI(l:List (Nat × Nat)):DataW Value:=Us 0 l (.map [])
theorem Fb:∀(l:List (Nat × Nat)) (k:Nat) (D:DataW Value) (x:Nat × Nat),Us k (l++[x]) D=(Us k l D).put (.int .i64 (k+l.length+1:Nat)) (.held (Xt 2 x.1 x.2))
 | [],k,D,x=>rfl
 | y::r,k,D,x=>by
  show Us (k+1) (r++[x]) _=(Us (k+1) r _).put _ _;rw[Fb r (k+1)];congr 3;simp;omega
theorem Y2y(l:List (Nat × Nat))(x:Nat × Nat):VI (l++[x])=(VI l).put (.int .i64 (l.length+1:Nat)) (.held (Xt 2 x.1 x.2)):=by
 unfold VI;rw[Fb];simp
theorem Of:∀(l:List (Nat × Nat)) (k:Nat) (D:DataW Value) (op:Int) (z:DataW Value),op<=k\/(k+l.length:Nat)<op->(Us k l D).atKey (.int .i64 op) z=D.atKey (.int .i64 op) z
 | [],_,_,_,_,_=>rfl
 | x::r,k,D,op,z,h=>by
  show(Us (k+1) r _).atKey _ _=_;simp only[Ya]at h;rw[Of r (k+1) _ op z (by omega),Lv (by intro e;cases e;omega)]
theorem Fa:∀(l:List (Nat × Nat)) (k:Nat) (D:DataW Value) (i:Nat) (h:i<l.length) (z:DataW Value),Maps.IsMap D->(Us k l D).atKey (.int .i64 (k+i+1:Nat)) z= .held (Xt 2 (l[i]).1 (l[i]).2)
 | x::r,k,D,0,_,z,hD=>by
  show(Us (k+1) r _).atKey _ _=_;rw[Of r (k+1) _ _ z (.inl (by simp)),WA,P5 hD (show WideAt.IsKeyLit (.int .i64 _)from trivial)];rfl
 | x::r,k,D,i+1,h,z,hD=>by
  show(Us (k+1) r _).atKey _ _=_;have:=Fa r (k+1) (D.put (.int .i64 (k+1:Nat)) (.held (Xt 2 x.1 x.2))) i (by simpa using h) z (hD.put _ _);rw[show k+(i+1)+1=k+1+i+1 by omega];exact this
def La(l:List (Nat × Nat))(op:Int):Value:=match(if 1<=op then l[(op-1).toNat]? else none)with
 | some x=>Xt 2 x.1 x.2
 | none=> .agg #[.int .i64 0,.nilFunc]
theorem Y2z(l:List (Nat × Nat))(op:Int):(VI l).atKey (.int .i64 op) (.held (.agg #[.int .i64 0,.nilFunc]))= .held (La l op):=by
 unfold VI La;by_cases a:1<=op
 .rw[X3 a];by_cases c:(op-1).toNat<l.length
  .have:=Fa l 0 (.map []) (op-1).toNat c (.held (.agg #[.int .i64 0,.nilFunc])) Maps.isMap_empty;rw[YH c,←this];congr 2;omega
  .rw[JD (by omega),Of l 0 _ op _ (.inr (by omega))];rfl
 .rw[X2 a,Of l 0 _ op _ (.inl (by omega))];rfl
theorem Y3a(l:List (Nat × Nat))(op:Int)(g n:Nat)(w:World)(c:(Lit.int .i64 op).wf=true)(h:w.ownsMap prog 3 UK g n (VI l)):(Instr.lookup 38 (.map (some g)) (.int .i64 op) false).run prog w= .ok (La l op) w:=by
 obtain⟨v,d,ZL,a⟩:=h.lookup Qv underlying38 (Hc w) (zd:= .held (.agg #[.int .i64 0,.nilFunc])) (zp:=[]) rfl (Qt op c);rw[ZL];have e:DataW.held v=(VI l).atKey (.int .i64 op) (.held (.agg #[.int .i64 0,.nilFunc])):=by
  have:=Zd (fun o=>o.map Prod.fst) a;simpa[UK]using this
 rw[Y2z]at e;cases e;rfl
structure Tab (w:World) (Rs:List (T->T->Out)) (l:List (Nat × Nat)) (W:World):Prop where
 B:Below w.heap.size w W
 len:l.length=Rs.length
 map:W.ownsMap prog 3 UK w.heap.size l.length (VI l)
 WU:∀i (h:i<l.length) (h':i<Rs.length),∃lo hi,w.heap.size<lo/\ZH lo hi W (l[i]).1 (l[i]).2 Rs[i]
 z:w.heap.size<W.heap.size
theorem Tab.below{w W g:World}{d:List (T->T->Out)}{l:List (Nat × Nat)}(h:Tab w d l W)(c:BL W g):Tab w d l g:=⟨h.B.trans (c.mono h.B.size),h.len,Da h.map c,fun i a b=>by obtain⟨lo,hi,k,j⟩:=h.WU i a b;exact⟨lo,hi,k,j.same ((YQ.refl j.size).below c)⟩,Xd h.z c.size⟩
theorem Tab.step{w W j:World}{g:List (T->T->Out)}{l:List (Nat × Nat)}{lo hi f b:Nat}{R:T->T->Out}(h:Tab w g l W)(t:ZH lo hi W f b R)(hlo:w.heap.size<lo)(A:j.ownsMap prog 3 UK w.heap.size (l.length+1) ((VI l).put (.int .i64 (l.length+1:Nat)) (.held (Xt 2 f b))))(d:W.grownBy j (some w.heap.size)):Tab w (g++[R]) (l++[(f,b)]) j:=by
 refine⟨h.B.grown d h.B.size (fun k e=>by cases e;exact X4 _),by simp[h.len],by rw[Y2y];simpa using A,?_,Xd h.z d.size⟩;intro i a u;by_cases c:i<l.length
 .obtain⟨q,m,r,s⟩:=h.WU i c (by have:=h.len;omega);refine⟨q,m,r,?_⟩;rw[Vg c,Vg (by have:=h.len;omega)];exact s.same ((YQ.refl s.size).grown d r)
 .have n:i=l.length:=by simp at a;omega
  subst n;refine⟨lo,hi,hlo,?_⟩;have v:(l++[(f,b)])[l.length]=(f,b):=by simp
  have y:(g++[R])[l.length]'u=R:=by simp[h.len]
  rw[v,y];exact t.same ((YQ.refl t.size).grown d hlo)
structure Row (w:World) (Rs:List (T->T->Out)) (l:List (Nat × Nat)) (W:World):Prop where
 B:Below w.heap.size w W
 len:l.length=Rs.length
 WU:∀i (h:i<l.length) (h':i<Rs.length),ZH w.heap.size W.heap.size W (l[i]).1 (l[i]).2 Rs[i]
theorem Row.nil(w:World):Row w [] [] w:=⟨X5 _ _,rfl,fun i h=>by cases h⟩
theorem Row.below{w W g:World}{d:List (T->T->Out)}{l:List (Nat × Nat)}(h:Row w d l W)(c:BL W g):Row w d l g:=⟨h.B.trans (c.mono h.B.size),h.len,fun i a b=>((h.WU i a b).same ((YQ.refl (X4 _)).below c)).wide (X4 _) c.size (X4 _)⟩
theorem Row.step{w W d:World}{c:List (T->T->Out)}{l:List (Nat × Nat)}{lo hi f b:Nat}{R:T->T->Out}(h:Row w c l W)(r:BL W d)(k:ZH lo hi d f b R)(hlo:W.heap.size<=lo):Row w (c++[R]) (l++[(f,b)]) d:=by
 have j:=h.below r;refine⟨j.B,by simp[h.len],?_⟩;intro i a m;by_cases hi:i<l.length
 .rw[Vg hi,Vg (by have:=h.len;omega)];exact j.WU i hi (by have:=h.len;omega)
 .have g:i=l.length:=by simp at a;omega
  subst g;have n:(l++[(f,b)])[l.length]=(f,b):=by simp
  have q:(c++[R])[l.length]'m=R:=by simp[h.len]
  rw[n,q];exact k.wide (by have:=h.B.size;omega) k.size (X4 _)
def W8:List (Nat × Nat)->List Value
 | []=>[]
 | x::r=> .int .i64 2 :: .func (.func x.1) #[] #[.pointer (some ⟨x.2,0,none⟩)]::W8 r
theorem AV:∀(l:List (Nat × Nat)) (i:Nat) (h:i<l.length),(W8 l)[i*2]?=some (.int .i64 2)/\(W8 l)[i*2+1]?=some (.func (.func (l[i]).1) #[] #[.pointer (some ⟨(l[i]).2,0,none⟩)])
 | x::r,0,_=>⟨rfl,rfl⟩
 | x::r,i+1,h=>by
  have:=AV r i (by simpa using h);rw[show(i+1)*2=i*2+1+1 by omega];exact this
theorem Row.either{w W w':World}{c:List (T->T->Out)}{l:List (Nat × Nat)}(h:Row w c l W)(q:l.length<=100)(d:Below (W.heap.size+1) (W.alloc (.cells (W8 l).toArray 71)) w')(n:w'.cell? ⟨W.heap.size+1,0,none⟩=some (.slice (some ⟨W.heap.size,0,none⟩) l.length l.length))(s:W.heap.size+1<w'.heap.size): ZH w.heap.size w'.heap.size w' 100 (W.heap.size+1) (fun t u=>KY (c.map fun R=>R t u)):=by
 have m:BL W w':=(bA _).trans (d.mono (UF _));have k:=h.below m;have r:=h.B.size;refine Bk l c h.len.symm q W.heap.size (W.heap.size+1) r (by omega) (by omega) s (X4 _) n (fun i hi=>?_) (fun i a b=>k.WU i a b);obtain⟨g,j⟩:=AV l i hi;exact⟨(d.cell (p:=⟨W.heap.size,i*2,none⟩) (XI _)).trans (Iv W (W8 l) _ _ _ g),(d.cell (p:=⟨W.heap.size,i*2+1,none⟩) (XI _)).trans (Iv W (W8 l) _ _ _ j)⟩
def G8(t u:T):Out:=KY ([VM DY,tyR,tyR].map fun R=>R t u)
def UJ(t u:T):Out:=KY ([Uu Ig,VM Ik,tyR,tyR].map fun R=>R t u)
def Un:List (T->T->Out):=[Lf orR,Lf AF,M5 (fun n=>decide (n=0)),M5 (fun n=>decide (n≠0)),alike (fun n=>decide (n<0)),alike (fun n=>decide (n<=0)),alike (fun n=>decide (0<n)),alike (fun n=>decide (0<=n)),G8,UJ,Uu F9,Uu mulR,Uu RX,Uu RZ]
theorem Tab.start(w:World):Tab w [] [] (w.alloc (.map #[] 0)):=⟨bA _,rfl,Ic (H:=Value) w prog 3 UK,(fun i h=>by cases h),by simp⟩
theorem Xej(w:World):Calls prog 12 #[] w fun e w'=>∃l,e= .returned (.map (some w.heap.size))/\Tab w (Un) l w':=by
 have a0:=@Gp prog;have P:=X1 (Tab.start w);go_enter func12,ntmps12;go_wp2_with fail;generalize w.alloc (.map #[] 0)=v0 at *;refine(Sv 33 #[] _).mono ?_;rintro e u1⟨rfl,c0,c,g⟩;have d:=X1 (P.o.below c);have j:=X1 (Bi (YZ func33 (by kernel_rfl) (by kernel_rfl)) c0 g Xbd);have a:=X1 P.o.z;clear c0 c g P;unfold Xt;go_wp2_with(show wpList _ _ _ ({dst:=_,op:=Op.insert _ _ _ _,type:=_,pos:=_,after:=_,guard:=_}::_) _ _;go_must (refine QA _ rfl _ _ _ 38 rfl 3 71 Qv underlying38 _ w.heap.size 0 _ rfl d.o.map (by unfold maxLen;omega) _ _ _ rfl rfl (Qt 1 (by decide)) _ [] rfl ?_));intro v1 m k;have Q:=X1 (d.o.step j.o (hlo:=a.o) m k);clear m k d j a;go_wp2_with fail;refine(Sv 34 #[] _).mono ?_;rintro e u2⟨rfl,c0,c,g⟩;have d:=X1 (Q.o.below c);have j:=X1 (Bi (YZ func34 (by kernel_rfl) (by kernel_rfl)) c0 g Xaz);have a:=X1 Q.o.z;clear c0 c g Q;unfold Xt;go_wp2_with(show wpList _ _ _ ({dst:=_,op:=Op.insert _ _ _ _,type:=_,pos:=_,after:=_,guard:=_}::_) _ _;go_must (refine QA _ rfl _ _ _ 38 rfl 3 71 Qv underlying38 _ w.heap.size 1 _ rfl d.o.map (by unfold maxLen;omega) _ _ _ rfl rfl (Qt 2 (by decide)) _ [] rfl ?_));intro v2 m k;have V:=X1 (d.o.step j.o (hlo:=a.o) m k);clear m k d j a;go_wp2_with fail;refine(Bc 36 _).mono ?_;rintro e u3⟨rfl,c0,c1,c,g⟩;have d:=X1 (V.o.below c);have j:=X1 (Bj (YZ func36 (by kernel_rfl) (by kernel_rfl)) X7o c0 c1 g);have a:=X1 V.o.z;clear c0 c1 c g V;unfold Xt;go_wp2_with(show wpList _ _ _ ({dst:=_,op:=Op.insert _ _ _ _,type:=_,pos:=_,after:=_,guard:=_}::_) _ _;go_must (refine QA _ rfl _ _ _ 38 rfl 3 71 Qv underlying38 _ w.heap.size 2 _ rfl d.o.map (by unfold maxLen;omega) _ _ _ rfl rfl (Qt 3 (by decide)) _ [] rfl ?_));intro v3 m k;have W:=X1 (d.o.step j.o (hlo:=a.o) m k);clear m k d j a;go_wp2_with fail;refine(Bc 37 _).mono ?_;rintro e u4⟨rfl,c0,c1,c,g⟩;have d:=X1 (W.o.below c);have j:=X1 (Bj (YZ func37 (by kernel_rfl) (by kernel_rfl)) X7p c0 c1 g);have a:=X1 W.o.z;clear c0 c1 c g W;unfold Xt;go_wp2_with(show wpList _ _ _ ({dst:=_,op:=Op.insert _ _ _ _,type:=_,pos:=_,after:=_,guard:=_}::_) _ _;go_must (refine QA _ rfl _ _ _ 38 rfl 3 71 Qv underlying38 _ w.heap.size 3 _ rfl d.o.map (by unfold maxLen;omega) _ _ _ rfl rfl (Qt 4 (by decide)) _ [] rfl ?_));intro v4 m k;have X:=X1 (d.o.step j.o (hlo:=a.o) m k);clear m k d j a;go_wp2_with fail;refine(LO 39 _ _ (YZ func39 (by kernel_rfl) (by kernel_rfl)) X7q).mono ?_;rintro e u5⟨bb,rfl,q,c⟩;have d:=X1 (X.o.below c);have j:=X1 q;have a:=X1 X.o.z;clear q c X;unfold Xt;go_wp2_with(show wpList _ _ _ ({dst:=_,op:=Op.insert _ _ _ _,type:=_,pos:=_,after:=_,guard:=_}::_) _ _;go_must (refine QA _ rfl _ _ _ 38 rfl 3 71 Qv underlying38 _ w.heap.size 4 _ rfl d.o.map (by unfold maxLen;omega) _ _ _ rfl rfl (Qt 5 (by decide)) _ [] rfl ?_));intro v5 m k;have Y:=X1 (d.o.step j.o (hlo:=a.o) m k);clear m k d j a;go_wp2_with fail;refine(LO 40 _ _ (YZ func40 (by kernel_rfl) (by kernel_rfl)) X7r).mono ?_;rintro e u6⟨bb,rfl,q,c⟩;have d:=X1 (Y.o.below c);have j:=X1 q;have a:=X1 Y.o.z;clear q c Y;unfold Xt;go_wp2_with(show wpList _ _ _ ({dst:=_,op:=Op.insert _ _ _ _,type:=_,pos:=_,after:=_,guard:=_}::_) _ _;go_must (refine QA _ rfl _ _ _ 38 rfl 3 71 Qv underlying38 _ w.heap.size 5 _ rfl d.o.map (by unfold maxLen;omega) _ _ _ rfl rfl (Qt 6 (by decide)) _ [] rfl ?_));intro v6 m k;have Z:=X1 (d.o.step j.o (hlo:=a.o) m k);clear m k d j a;go_wp2_with fail;refine(LO 41 _ _ (YZ func41 (by kernel_rfl) (by kernel_rfl)) X7s).mono ?_;rintro e u7⟨bb,rfl,q,c⟩;have d:=X1 (Z.o.below c);have j:=X1 q;have a:=X1 Z.o.z;clear q c Z;unfold Xt;go_wp2_with(show wpList _ _ _ ({dst:=_,op:=Op.insert _ _ _ _,type:=_,pos:=_,after:=_,guard:=_}::_) _ _;go_must (refine QA _ rfl _ _ _ 38 rfl 3 71 Qv underlying38 _ w.heap.size 6 _ rfl d.o.map (by unfold maxLen;omega) _ _ _ rfl rfl (Qt 7 (by decide)) _ [] rfl ?_));intro v7 m k;have T7:=X1 (d.o.step j.o (hlo:=a.o) m k);clear m k d j a;go_wp2_with fail;refine(LO 42 _ _ (YZ func42 (by kernel_rfl) (by kernel_rfl)) X7t).mono ?_;rintro e u8⟨bb,rfl,q,c⟩;have d:=X1 (T7.o.below c);have j:=X1 q;have a:=X1 T7.o.z;clear q c T7;unfold Xt;go_wp2_with(show wpList _ _ _ ({dst:=_,op:=Op.insert _ _ _ _,type:=_,pos:=_,after:=_,guard:=_}::_) _ _;go_must (refine QA _ rfl _ _ _ 38 rfl 3 71 Qv underlying38 _ w.heap.size 7 _ rfl d.o.map (by unfold maxLen;omega) _ _ _ rfl rfl (Qt 8 (by decide)) _ [] rfl ?_));intro v8 m k;have T8:=X1 (d.o.step j.o (hlo:=a.o) m k);clear m k d j a;have I:=X1 (Row.nil v8);go_wp2_with fail;refine(Sw 45 #[] _).mono ?_;rintro e L⟨rfl,c0,c,g⟩;have J:=X1 (I.o.step c (Bl (YZ func45 (by kernel_rfl) (by kernel_rfl)) c0 g Xbb) (X4 _));clear c0 c g I;unfold Xt;go_wp2_with fail;refine(Y4n 47 #[] _).mono ?_;rintro e M⟨rfl,c0,c,g⟩;have K:=X1 (J.o.step c (X3n g) (X4 _));clear c0 c g J;unfold Xt;go_wp2_with fail;refine(Y4r 49 #[] _).mono ?_;rintro e s⟨rfl,c0,c,g⟩;have t:=X1 (K.o.step c (X3q g) (X4 _));clear c0 c g K;unfold Xt;go_wp2_with fail;refine(PO 3 s.heap.size (by omega) _ (by simp) (Iv s (W8 [(101,v8.heap.size),(103,L.heap.size),(105,M.heap.size)]) 71 0 _ rfl)).mono ?_;rintro e u9⟨rfl,F,r,H⟩;simp only[Xb]at F r H;have j:=X1 (t.o.either (by simp) r F H);have d:=X1 (T8.o.below (t.o.B.trans (((bA _).trans (r.mono (UF _))).mono t.o.B.size)));have a:=X1 T8.o.z;clear F r H t T8;unfold Xt;go_wp2_with(show wpList _ _ _ ({dst:=_,op:=Op.insert _ _ _ _,type:=_,pos:=_,after:=_,guard:=_}::_) _ _;go_must (refine QA _ rfl _ _ _ 38 rfl 3 71 Qv underlying38 _ w.heap.size 8 _ rfl d.o.map (by unfold maxLen;omega) _ _ _ rfl rfl (Qt 9 (by decide)) _ [] rfl ?_));intro v9 m k;have T9:=X1 (d.o.step j.o (hlo:=a.o) m k);clear m k d j a;have I:=X1 (Row.nil v9);go_wp2_with fail;refine(Gx 51 #[] _).mono ?_;rintro e C⟨rfl,c0,c,g⟩;have J:=X1 (I.o.step c (Ir (YZ func51 (by kernel_rfl) (by kernel_rfl)) c0 g Xay) (X4 _));clear c0 c g I;unfold Xt;go_wp2_with fail;refine(Sw 52 #[] _).mono ?_;rintro e D⟨rfl,c0,c,g⟩;have K:=X1 (J.o.step c (Bl (YZ func52 (by kernel_rfl) (by kernel_rfl)) c0 g Xba) (X4 _));clear c0 c g J;unfold Xt;go_wp2_with fail;refine(Fv 54 #[] _).mono ?_;rintro e E⟨rfl,c0,c,g⟩;have t:=X1 (K.o.step c (X3o g) (X4 _));clear c0 c g K;unfold Xt;go_wp2_with fail;refine(Y4p 56 #[] _).mono ?_;rintro e n⟨rfl,c0,c,g⟩;have N:=X1 (t.o.step c (X3p g) (X4 _));clear c0 c g t;unfold Xt;go_wp2_with fail;refine(PO 4 n.heap.size (by omega) _ (by simp) (Iv n (W8 [(107,v9.heap.size),(101,C.heap.size),(110,D.heap.size),(113,E.heap.size)]) 71 0 _ rfl)).mono ?_;rintro e a1⟨rfl,F,r,H⟩;simp only[Xb]at F r H;have j:=X1 (N.o.either (by simp) r F H);have d:=X1 (T9.o.below (N.o.B.trans (((bA _).trans (r.mono (UF _))).mono N.o.B.size)));have a:=X1 T9.o.z;clear F r H N T9;unfold Xt;go_wp2_with(show wpList _ _ _ ({dst:=_,op:=Op.insert _ _ _ _,type:=_,pos:=_,after:=_,guard:=_}::_) _ _;go_must (refine QA _ rfl _ _ _ 38 rfl 3 71 Qv underlying38 _ w.heap.size 9 _ rfl d.o.map (by unfold maxLen;omega) _ _ _ rfl rfl (Qt 10 (by decide)) _ [] rfl ?_));intro a6 m k;have u:=X1 (d.o.step j.o (hlo:=a.o) m k);clear m k d j a;go_wp2_with fail;refine(Gx 57 #[] _).mono ?_;rintro e a2⟨rfl,c0,c,g⟩;have d:=X1 (u.o.below c);have j:=X1 (Ir (YZ func57 (by kernel_rfl) (by kernel_rfl)) c0 g Xbh);have a:=X1 u.o.z;clear c0 c g u;unfold Xt;go_wp2_with(show wpList _ _ _ ({dst:=_,op:=Op.insert _ _ _ _,type:=_,pos:=_,after:=_,guard:=_}::_) _ _;go_must (refine QA _ rfl _ _ _ 38 rfl 3 71 Qv underlying38 _ w.heap.size 10 _ rfl d.o.map (by unfold maxLen;omega) _ _ _ rfl rfl (Qt 11 (by decide)) _ [] rfl ?_));intro a7 m k;have v:=X1 (d.o.step j.o (hlo:=a.o) m k);clear m k d j a;go_wp2_with fail;refine(Gx 58 #[] _).mono ?_;rintro e a3⟨rfl,c0,c,g⟩;have d:=X1 (v.o.below c);have j:=X1 (Ir (YZ func58 (by kernel_rfl) (by kernel_rfl)) c0 g Xbc);have a:=X1 v.o.z;clear c0 c g v;unfold Xt;go_wp2_with(show wpList _ _ _ ({dst:=_,op:=Op.insert _ _ _ _,type:=_,pos:=_,after:=_,guard:=_}::_) _ _;go_must (refine QA _ rfl _ _ _ 38 rfl 3 71 Qv underlying38 _ w.heap.size 11 _ rfl d.o.map (by unfold maxLen;omega) _ _ _ rfl rfl (Qt 12 (by decide)) _ [] rfl ?_));intro a8 m k;have y:=X1 (d.o.step j.o (hlo:=a.o) m k);clear m k d j a;go_wp2_with fail;refine(Gx 59 #[] _).mono ?_;rintro e a4⟨rfl,c0,c,g⟩;have d:=X1 (y.o.below c);have j:=X1 (Ir (YZ func59 (by kernel_rfl) (by kernel_rfl)) c0 g Xbf);have a:=X1 y.o.z;clear c0 c g y;unfold Xt;go_wp2_with(show wpList _ _ _ ({dst:=_,op:=Op.insert _ _ _ _,type:=_,pos:=_,after:=_,guard:=_}::_) _ _;go_must (refine QA _ rfl _ _ _ 38 rfl 3 71 Qv underlying38 _ w.heap.size 12 _ rfl d.o.map (by unfold maxLen;omega) _ _ _ rfl rfl (Qt 13 (by decide)) _ [] rfl ?_));intro a9 m k;have A:=X1 (d.o.step j.o (hlo:=a.o) m k);clear m k d j a;go_wp2_with fail;refine(Gx 60 #[] _).mono ?_;rintro e a5⟨rfl,c0,c,g⟩;have d:=X1 (A.o.below c);have j:=X1 (Ir (YZ func60 (by kernel_rfl) (by kernel_rfl)) c0 g Xbg);have a:=X1 A.o.z;clear c0 c g A;unfold Xt;go_wp2_with(show wpList _ _ _ ({dst:=_,op:=Op.insert _ _ _ _,type:=_,pos:=_,after:=_,guard:=_}::_) _ _;go_must (refine QA _ rfl _ _ _ 38 rfl 3 71 Qv underlying38 _ w.heap.size 13 _ rfl d.o.map (by unfold maxLen;omega) _ _ _ rfl rfl (Qt 14 (by decide)) _ [] rfl ?_));intro b0 m k;have S:=X1 (d.o.step j.o (hlo:=a.o) m k);clear m k d j a;go_wp2;go_ret;exact⟨_,rfl,S.o⟩
end Go.Proofs.YtkoiikmhfaebnaaGreatDoor.Vl
namespace Go.Proofs.YtkoiikmhfaebnaaGreatDoor
open Tryz
namespace Fd
def UG(t:Fd):Prop:=U9 t\/Stmt t\/OI t
theorem UG.kids{t:Fd}(h:UG t):∀k∈t.ks,UG k:=by
 intro k a;rcases h with h|h|h
 .exact .inl (h.kids k a)
 .exact .inl (h.2.2 k a)
 .exact .inr (.inl (h.2 k a))
theorem UG.AI{x:Nd}{p b:Int}{ks:List Fd}(h:UG (.mk x p b ks))(c:x.kind=14):U9 (.mk x p b ks):=by
 rcases h with h|h|h
 .exact h
 .have a:20<=x.kind:=h.1;omega
 .have a:x.kind=24:=h.1;omega
structure Cs (O:FOp):Prop where
 un:∀op k c,O.un op k=some c->isC c
 bin:∀op k l c,O.bin op k l=some c->isC c
theorem CO{O:FOp}(d:Cs O)(f:Nat){x:Nd}{p b:Int}{k l:Fd}(h:U9 (.mk x p b [k,l]))(a:x.kind=14){c:Nd}(B:isC c):fill x.text c (fold O f l)=Yr p c (fold O f l)/\U9 (Yr p c (fold O f l)):=by
 obtain⟨e,U,j,g⟩:=h;rw[QI,X2 (by omega),X3 (.inl a)]at j;obtain⟨u,v⟩:=(Ji _ _ _ _ _ _).1 j.2;have n:=RI d.un d.bin f l _ _ (v l (by simp)) (Li g x.text p);have A:=RI d.un d.bin f k _ _ u g;have m:Ok e U (.mk x p b [fold O f k,fold O f l]):=by
  rw[QI,X2 (by omega),X3 (.inl a)];exact⟨j.1,(Ji _ _ _ _ _ _).2 ⟨A,fun y t=>by simp only[Y6,ZA,Zy]at t;rw[t];exact n⟩⟩
 refine⟨X5b m a g c,e,U,Er p B _ _ (X4 _) _ e _ U n ?_ (.inr rfl) (fun z C=> .inl C),g⟩;intro s q;by_cases r:s=x.text
 .subst r;rw[Uv]at q;exact absurd rfl q
 .exact JZ e p r
end Fd
