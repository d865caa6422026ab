import Derived.Test.YtaeafhenpjnhiaaGreatDoorE31
import Derived.Test.YtaeafhenpjnhiaaGreatDoorE32
set_option maxHeartbeats 2000000
set_option maxRecDepth 100000
namespace Go.Proofs
def Tryz.X8l:Go.Shelf.Ren:=⟨fun|137=>95|217=>115|266=>130|n=>n,fun|9=>9|5=>5|3=>3|n=>n,fun|n=>n⟩
theorem Tryz.X8k:Go.Proofs.Lays.n137 Tryz.prog Tryz.X8l:={
 mixed:=by kernel_rfl
 f137:=Tryz.func95.trans (congrArg some (by kernel_rfl))
 f217:=Tryz.func115.trans (congrArg some (by kernel_rfl))
 f266:=Tryz.func130.trans (congrArg some (by kernel_rfl))
 t3:=Tryz.underlying3
 a3:=Tryz.isAgg3
 z3:=Tryz.sizeOf3
 v3:=Tryz.zeroValue3
 t5:=Tryz.underlying5
 a5:=Tryz.isAgg5
 z5:=Tryz.sizeOf5
 v5:=Tryz.zeroValue5
 t9:=Tryz.underlying9
 a9:=Tryz.isAgg9
 z9:=Tryz.sizeOf9
 v9:=Tryz.zeroValue9}
open Go.RowKit in
theorem Tryz.strings_IndexByte(s:ByteArray)(c:Int)(w:World): Calls Tryz.prog 95 #[.string s,.int .u8 c] w fun e w'=>e= .returned (.q (Lib.indexByte s.data.toList c.toNat.toUInt8))/\w'=w:=Any.strings_IndexByte Tryz.X8k s c w
end Go.Proofs
namespace Go.Proofs.YtaeafhenpjnhiaaGreatDoor
open Tryz Go.RowKit
theorem VR(b:UInt8)(w:World):Calls prog 96 #[.int .u8 b.toNat] w fun e w'=>e= .returned (.bool (Sc.dig b))/\w'=w:=by
 by_cases a:48<=(b.toNat:Int);all_goals by_cases d:(b.toNat:Int)<=57
 all_goals
  go_enter func96,ntmps96;go_wp2;go_ret;exact⟨Xn (by simp[Sc.dig];omega),rfl⟩
theorem UR(b:UInt8)(w:World):Calls prog 94 #[.int .u8 b.toNat] w fun e w'=>e= .returned (.bool (Sc.nm b))/\w'=w:=by
 have d:Sc.nm b=(Sc.beg b||Sc.dig b):=rfl;rw[d];clear d;have a:Sc.beg b=(decide (97<=(b.toNat:Int))&&decide ((b.toNat:Int)<=122)||((b.toNat:Int)==95)):=by rw[YH];simp[Sc.beg];omega
 have g:=X1 a;clear a;by_cases j:97<=(b.toNat:Int);all_goals by_cases k:(b.toNat:Int)<=122
 all_goals cases m:((b.toNat:Int)==95)
 all_goals
  go_enter func94,ntmps94;go_wp2_with(go_at_call 96;go_fit(VR _ _);rintro e w'⟨rfl,rfl⟩);go_ret;exact⟨Xn (by rw[g.o];simp[j,k,m];try omega),rfl⟩
theorem Tr.Y2p{b:UInt8}{r:List UInt8}(h:Sc.nm b=false):(b::r).takeWhile Sc.nm=[]:=by simp[h]
theorem Tr.Y2q{b:UInt8}{r:List UInt8}(h:Sc.nm b=true):((b::r).takeWhile Sc.nm).length=(r.takeWhile Sc.nm).length+1:=by simp[h]
theorem OK(s:ByteArray)(w:World)(r:s.size<=1048576): Calls prog 97 #[.string s] w fun e w'=>e= .returned (.q ((s.data.toList.takeWhile Sc.nm).length:Nat))/\w'=w:=by
 go_enter func97,ntmps97;go_wp2;go_loop[3] (fun t=>∃j:Nat,j<=s.size/\t= .q j/\j+((s.data.toList.drop j).takeWhile Sc.nm).length=(s.data.toList.takeWhile Sc.nm).length) (fun t=>s.size-(intOf t).toNat)
 case atStart=>exact⟨0,Xb _,rfl,by simp⟩
 case round=>
  obtain⟨j,n,rfl,k⟩:=hrel;have a:=X1 k;clear k;by_cases d:j<s.size
  .have g:=X1 (Sc.drop_cons s j d);cases m:Sc.nm s[j]
   .go_wp2_with(go_at_call 94;go_fit(UR _ _);rintro e w'⟨rfl,rfl⟩);go_ret;refine⟨ZQ ?_,rfl⟩;have e:=a.o;rw[g.o,Tr.Y2p m]at e;simp at e;omega
   .go_wp2_with(go_at_call 94;go_fit(UR _ _);rintro e w'⟨rfl,rfl⟩);go_round
    case rel=>
     refine⟨j+1,by omega,by go_num,?_⟩;have e:=a.o;rw[g.o,Tr.Y2q m]at e;omega
    case measure=>simp[intOf];omega
  .go_wp2;go_ret;refine⟨ZQ ?_,rfl⟩;have e:=a.o;rw[YI (i:=j) (by simp;omega)]at e;simp at e;omega
def Sc.Q6{H:Type}:DataW H:=Maps.setOf (.agg []) (Sc.words.map Lit.string)
theorem Sc.X2e{H:Type}(l:List UInt8):Maps.has (Sc.Q6 (H:=H)) (.string l)=decide (l∈Sc.words):=by
 unfold Sc.Q6;rw[Maps.has_setOf]
 .rw[YH];simp[Lit.sameKey]
 .intro x a;simp only[Vw]at a;obtain⟨y,_,rfl⟩:=a;trivial
theorem Y3m{H:Type}{P:Program}(w:World){ops:Array Oper}{g:List Oper}{o:Oper}{a:Act}{Q:Exit->Act->World->Prop}(E:o.guard=none)(m x v:Operand)(t:TypeId)(A:o.op=Op.insert t m x v)(k e:TypeId)(K:Maps.Keyed P k)(I:P.underlying t=some (.map k e))(R:Value->Option (DataW H × List MemPlace))(b n:Nat)(D:DataW H)(hm:a.eval m= .map (some b))(r:w.ownsMap P k R b n D)(F:n<maxLen)(u val:Value)(B:Lit)(L:a.eval x=u)(J:a.eval v=val)(j:keyOf P k u=some B)(d:DataW H)(M:List MemPlace)(s:R val=some (d,M))(C:∀w',w'.ownsMap P k R b (n+1) (D.put B d)->w.grownBy w' (some b)->wpList P ops Q g (a.put o.dst undef) w'): wpList P ops Q (o::g) a w:=by
 refine wpList_plain E fun N y=>?_;obtain⟨w',KU,r1,r2⟩:=r.update K I F j s;unfold Oper.wp;simp[execOp,A,hm,L,J,KU,Result.andThen];exact y _ _ (C w' r1 r2)
theorem M7(w:World):Calls prog 14 #[] w fun e w'=>e= .returned (.map (some w.heap.size))/\w'.ownsMap (H:=Unit) prog 9 unitElem w.heap.size 17 Sc.Q6/\Below w.heap.size w w':=by
 have m:=@run_makeMap prog;have d:=Se (H:=Unit) w prog 9 unitElem;have a:BL w (w.alloc (.map #[] 0)):=bA _;go_enter func14,ntmps14;go_wp2_with(show wpList _ _ _ ({dst:=_,op:=Op.insert _ _ _ _,type:=_,pos:=_,after:=_,guard:=_}::_) _ _;go_must (refine Y3m _ rfl _ _ _ 39 rfl 9 84 Ox underlying39 _ w.heap.size _ _ rfl d (by unfold maxLen;decide) _ _ _ rfl rfl (MG underlying9 (by unfold maxLen;decide)) _ [] unitElem_mk ?_);go_must (intro n j g;replace a:=a.grown g a.size (fun k e=>by cases e;exact X5 _);replace d:=j;clear j g));go_ret;exact⟨rfl,d,a⟩
theorem Tr.Ev(l:List UInt8):Kt Sc.nm l=decide ((l.takeWhile Sc.nm).length=l.length):=by
 induction l with
 | nil=>rfl
 | cons b r a=>
  rw[VC,a];cases h:Sc.nm b
  .simp[h]
  .simp[h]
theorem Tr.NS(b:UInt8)(h:Sc.nm b=true):Sc.beg b=!Sc.dig b:=by
 have d:Sc.nm b=(Sc.beg b||Sc.dig b):=rfl;have:Sc.beg b=true->Sc.dig b=false:=by intro h;simp[Sc.beg,Sc.dig]at h⊢;omega
 cases a:Sc.beg b
 .rw[d,a]at h;simp at h;simp[h]
 .rw[this a];rfl
theorem Tr.Xad(s:ByteArray)(h:0<s.size):K6 s=(!decide (30<(s.size:Int))&&!Sc.dig s[0]&&!decide (s.data.toList∈Sc.words)&&decide ((s.data.toList.takeWhile Sc.nm).length=s.size)):=by
 have g:s.data.toList=s[0]::s.data.toList.drop 1:=by simpa using Sc.drop_cons s 0 h
 have m:s.data.toList.head?=some s[0]:=by rw[g];rfl
 have j:s.data.toList.length=s.size:=by simp
 unfold K6;rw[m,Tr.Ev,j];have k:Xs s.size 1 30=!decide (30<(s.size:Int)):=by unfold Xs;rw[YH];simp;omega
 rw[k];by_cases d:(s.data.toList.takeWhile Sc.nm).length=s.size
 .have a:Kt Sc.nm s.data.toList=true:=by rw[Tr.Ev,j];simpa using d
  rw[g,VC,XE]at a;rw[UA,Tr.NS _ a.1];cases Sc.dig s[0]<;>simp
 .simp[d]
theorem Tr.Xac(s:ByteArray)(h:s.size=0):K6 s=false:=by
 unfold K6;rw[h];rfl
theorem NN(s:ByteArray):(s.toList==[])=decide (s.size=0):=by
 rw[Js,YH];simp[←Array.size_eq_zero_iff]
theorem FP(a b:Int)(x:Gr)(r:List Gr):Yg a b (x::r)=(decide (a<=x.nd.kind)&&decide (x.nd.kind<=b)&&Yg a b r):=rfl
theorem Ov(p:Option Addr)(c:Nat)(a b:Int)(w:World): CB 62 #[.slice p 0 c,.q a,.q b] w (.bool true):=by
 go_enter func62,ntmps62;go_wp2;go_loop[11] (fun t=>t= .q 0) (fun _=>0)
 case atStart=>rfl
 case round=>
  subst hrel;go_wp2;go_ret;exact⟨rfl,X8 _ _⟩
theorem X7x(l:List Gr)(g o c:Nat)(a b:Int)(w:World)(K:l.length<=1048576)(u:KK w g o l): CB 62 #[.slice (some ⟨g,o,none⟩) l.length c,.q a,.q b] w (.bool (Yg a b l)):=by
 have v:=X1 u;clear u;go_enter func62,ntmps62;go_wp2;go_loopw[11] (fun t wr=>∃j:Nat,j<=l.length/\t= .q j/\BL w wr/\Yg a b l=Yg a b (l.drop j)) (fun t _=>l.length-(intOf t).toNat)
 case atStart=>exact⟨0,Xb _,rfl,X8 _ _,by simp⟩
 case round=>
  obtain⟨j,J,rfl,d,s⟩:=hrel;have r:=X1 s;clear s;by_cases m:j<l.length
  .obtain⟨y,A,B,C,E,F⟩:=(v.o.below d).2 j m;have n:=X1 (show Yg a b l=(decide (a<=l[j].nd.kind)&&decide (l[j].nd.kind<=b)&&Yg a b (l.drop (j+1))) by rw[r.o,KM m,FP]);generalize l[j].nd.kind=k at *;by_cases H:k<a
   .go_wp2;go_ret;refine⟨Xn ?_,d.alloc d.size _⟩;rw[n.o,JP (by omega:¬a<=k)];rfl
   .by_cases I:b<k
    .go_wp2;go_ret;refine⟨Xn ?_,d.alloc d.size _⟩;rw[n.o,JP (by omega:¬k<=b)];simp
    .go_wp2;go_roundw
     case rel=>exact⟨j+1,by omega,by go_num,d.alloc d.size _,by rw[n.o,DU (by omega:a<=k),DU (by omega:k<=b)];simp⟩
     case measure=>simp[intOf];omega
  .go_wp2;go_ret;refine⟨Xn ?_,d⟩;rw[r.o,YI (by omega)];rfl
theorem Qt(l:List Gr)(v:Value)(a b:Int)(w:World)(d:l.length<=1048576)(j:GrV w v l): CB 62 #[v,.q a,.q b] w (.bool (Yg a b l)):=by
 rcases j with⟨p,c,rfl,rfl⟩|⟨g,o,c,rfl,_,h⟩
 .exact Ov p c a b w
 .exact X7x l g o c a b w d h
theorem N8(l:List Gr)(j h:Nat)(a:j<l.length):Zs (l.drop j) h=Zs (l.drop (j+1)) (if h<l[j].high+1 then l[j].high+1 else h):=by
 rw[KM a];rfl
theorem X2i(p:Option Addr)(c:Nat)(w:World): CB 32 #[.slice p 0 c] w (.q 0):=by
 go_enter func32,ntmps32;go_wp2;go_loop[3,8] (fun a t=>a= .q 0/\t= .q 0) (fun _ _=>0)
 case atStart=>exact⟨rfl,rfl⟩
 case round=>
  obtain⟨rfl,rfl⟩:=hrel;go_wp2;go_ret;exact⟨rfl,X8 _ _⟩
theorem X2j(l:List Gr)(g o c:Nat)(w:World)(L:l.length<=1048576)(m:∀x∈l,x.high<=1048576)(u:KK w g o l): CB 32 #[.slice (some ⟨g,o,none⟩) l.length c] w (.q (Zs l 0)):=by
 have A:=X1 u;have v:=X1 m;clear u m;go_enter func32,ntmps32;go_wp2;go_loopw[3,8] (fun a t wr=>∃j h:Nat,j<=l.length/\t= .q j/\a= .q h/\h<=1048577/\BL w wr/\Zs l 0=Zs (l.drop j) h) (fun _ t _=>l.length-(intOf t).toNat)
 case atStart=>exact⟨0,0,Xb _,rfl,rfl,by omega,X8 _ _,by simp⟩
 case round=>
  obtain⟨j,h,K,rfl,rfl,m,k,s⟩:=hrel;have n:=X1 s;clear s;by_cases d:j<l.length
  .obtain⟨B,C,E,F,H,I⟩:=(A.o.below k).2 j d;have r:=X1 (show Zs l 0=Zs (l.drop (j+1)) (if h<l[j].high+1 then l[j].high+1 else h) by rw[n.o,N8 l j h d]);have M:=v.o _ (YJ d);generalize l[j].high=y at *;by_cases J:(h:Int)<(y:Int)+1
   .go_wp2;go_roundw
    case rel=>exact⟨j+1,y+1,by omega,by go_num,by first|go_num|(congr 1;omega),by omega,k.alloc k.size _,by rw[r.o,Xa (by omega)]⟩
    case measure=>simp[intOf];omega
   .go_wp2;go_roundw
    case rel=>exact⟨j+1,h,by omega,by go_num,by first|rfl|(congr 1;omega),by omega,k.alloc k.size _,by rw[r.o,X6 (by omega)]⟩
    case measure=>simp[intOf];omega
  .go_wp2;go_ret;refine⟨ZQ ?_,k⟩;rw[n.o,YI (by omega)];rfl
theorem O9(l:List Gr)(v:Value)(w:World)(d:l.length<=1048576)(a:∀x∈l,x.high<=1048576)(j:GrV w v l): CB 32 #[v] w (.q (Zs l 0)):=by
 rcases j with⟨p,c,rfl,rfl⟩|⟨g,o,c,rfl,_,h⟩
 .exact X2i p c w
 .exact X2j l g o c w d a h
def UF(L:List (List UInt8))(x:List UInt8):List (List UInt8):=if x∈L then L else L++[x]
theorem FJ(L:List (List UInt8))(x:List UInt8):Maps.addKey (L.map Lit.string) (.string x)=(UF L x).map Lit.string:=by
 unfold Maps.addKey UF;have h:(L.map Lit.string).any (fun y=>y.sameKey (.string x))=decide (x∈L):=by
  rw[YH];simp[Lit.sameKey]
 rw[h];by_cases e:x∈L
 .simp[e]
 .simp[e]
theorem Hf(a L:List (List UInt8)):(a.map Lit.string).foldl Maps.addKey (L.map Lit.string)=(a.foldl UF L).map Lit.string:=by
 induction a generalizing L with
 | nil=>rfl
 | cons x r d=>rw[Y5,Mh,Mh,FJ,d]
theorem Hg(d L:List (List UInt8)):(d.foldl UF L).length<=L.length+d.length/\((d.foldl UF L).length=L.length+d.length↔d.Nodup/\∀x∈d,x∉L):=by
 induction d generalizing L with
 | nil=>simp
 | cons x r k=>
  rw[Mh];by_cases e:x∈L
  .have j:=(k L).1;have:UF L x=L:=Xa e;rw[this];refine⟨by simp only[XI];omega,⟨fun h=>?_,fun h=>absurd e (h.2 x (by simp))⟩⟩;simp only[XI]at h;omega
  .have j:=k (L++[x]);have:UF L x=L++[x]:=X6 e;rw[this];simp only[Xj,XI,Ya]at j⊢;refine⟨by omega,?_⟩;rw[show(r.foldl UF (L++[x])).length=L.length+(r.length+1)↔(r.foldl UF (L++[x])).length=L.length+(0+1)+r.length from by omega,j.2]
   simp only[List.nodup_cons,KC,Kr,QU,J7];constructor
   .rintro⟨a,b⟩;exact⟨⟨fun h=>(b x h) (.inr rfl),a⟩,fun y g=>by
     rcases g with rfl|g
     .exact e
     .exact fun h=>b y g (.inl h)⟩
   .rintro⟨⟨a,b⟩,c⟩;exact⟨b,fun y g h=>by
     rcases h with h|rfl
     .exact c y (.inr g) h
     .exact a g⟩
def JM(l:List Gr):List Lit:=l.map fun g=>Lit.string g.nd.text.data.toList
theorem Hp(l:List Gr):∀x∈JM l,WideAt.IsKeyLit x:=by
 intro x a;simp only[JM,Vw]at a;obtain⟨y,_,rfl⟩:=a;trivial
theorem FX(l:List Gr):(Maps.size (Maps.setOf (H:=Unit) (.agg []) (JM l))=l.length↔QX l=true)/\Maps.size (Maps.setOf (H:=Unit) (.agg []) (JM l))<=l.length:=by
 have e:JM l=(l.map fun g=>g.nd.text.data.toList).map Lit.string:=by simp[JM]
 have h:=Hg (l.map fun g=>g.nd.text.data.toList) [];have f:=Hf (l.map fun g=>g.nd.text.data.toList) [];rw[Maps.size_setOf _ _ (Hp l),e,show([]:List Lit)=List.map Lit.string []from rfl,f,Ju];simp only[Ya,Xu,Ju]at h;refine⟨h.2.trans ?_,h.1⟩;unfold QX;rw[J2];simp only[QU,BO,implies_true,and_true];rw[Rs,Rs,Rt,Rt];constructor
 .intro q;exact q.imp fun hne e=>hne (by rw[e])
 .intro q;exact q.imp fun hne e=>hne (Mb (Rf.1 e))
theorem R3(p:Option Addr)(c:Nat)(w:World): CB 63 #[.slice p 0 c] w (.bool true):=by
 have d:=@run_makeMap prog;have a:=Se (H:=Unit) w prog 9 unitElem;go_enter func63,ntmps63;go_wp2;go_loopw[9] (fun t wr=>t= .q 0/\wr=w.alloc (.map #[] 0)) (fun _ _=>0)
 case atStart=>exact⟨rfl,rfl⟩
 case round=>
  obtain⟨rfl,rfl⟩:=hrel;go_wp2_with(at_len;refine wpList_len_own _ rfl _ 39 rfl 9 84 underlying39 _ w.heap.size _ _ rfl a ?_);go_ret;exact⟨rfl,bA _⟩
theorem Y2f(l:List Gr)(g o c:Nat)(w:World)(hl:l.length<=1048576)(B:∀x∈l,x.nd.text.size<=1048576)(C:KK w g o l): CB 63 #[.slice (some ⟨g,o,none⟩) l.length c] w (.bool (QX l)):=by
 have N:=@run_makeMap prog;have r:=Se (H:=Unit) w prog 9 unitElem;have v:BL w (w.alloc (.map #[] 0)):=bA _;have L:=X1 C;have F:=X1 B;have K:=X1 r;clear C B r;go_enter func63,ntmps63;go_wp2;go_loopw[9] (fun t wr=>∃j:Nat,j<=l.length/\t= .q j/\BL w wr/\w.heap.size<wr.heap.size/\wr.ownsMap (H:=Unit) prog 9 unitElem w.heap.size j (Maps.setOf (.agg []) (JM (l.take j)))) (fun t _=>l.length-(intOf t).toNat)
 case atStart=>exact⟨0,Xb _,rfl,v,by simp,K.o⟩
 case round=>
  obtain⟨j,Z,rfl,s,hz,m⟩:=hrel;have A:=X1 m;clear m;by_cases n:j<l.length
  .obtain⟨Q,S,U,V,W,X⟩:=(L.o.below s).2 j n;have hy:=F.o _ (YJ n);have I:=X1 (show Maps.setOf (H:=Unit) (.agg []) (JM (l.take (j+1)))=(Maps.setOf (.agg []) (JM (l.take j))).put (.string l[j].nd.text.data.toList) (.agg []) by
    rw[←Maps.setOf_snoc];congr 1;unfold JM;rw[Vx n,JI];rfl)
   have M:Hid (keyOf prog 9 (.string l[j].nd.text)=some (.string l[j].nd.text.data.toList)):=X1 (MG underlying9 (by unfold maxLen;omega));generalize l[j].nd.text=tx at *;go_wp2_with(at_mapUpdate;refine wpList_mapUpdate_own _ rfl _ _ _ 39 rfl 9 84 Ox underlying39 _ w.heap.size j _ rfl (A.o.alloc _) (by unfold maxLen;omega) _ _ _ rfl rfl M.o _ [] unitElem_mk ?_);intro E d a;have u:BL w E:=(s.alloc s.size _).grown a (by simp;omega) (fun k e=>by cases e;exact X5 _);have y:w.heap.size<E.heap.size:=by have:=a.size;simp at this;omega
   rw[←I.o]at d;go_wp2;go_roundw
   case rel=>exact⟨j+1,by omega,by go_num,u,y,d⟩
   case measure=>simp[intOf];omega
  .have O:=FX l;have J:Hid (wr.ownsMap (H:=Unit) prog 9 unitElem w.heap.size j (Maps.setOf (.agg []) (JM l))):=X1 (by have:=A.o;rwa[I8 (by omega)]at this);generalize Maps.setOf (H:=Unit) (.agg []) (JM l)=D at *;go_wp2_with(at_len;refine wpList_len_own _ rfl _ 39 rfl 9 84 underlying39 _ w.heap.size j D rfl J.o ?_);all_goals
    go_ret;refine⟨Xn ?_,s⟩;rw[YH,←O.1];simp;omega
theorem En(l:List Gr)(v:Value)(w:World)(d:l.length<=1048576)(a:∀x∈l,x.nd.text.size<=1048576)(j:GrV w v l): CB 63 #[v] w (.bool (QX l)):=by
 rcases j with⟨p,c,rfl,rfl⟩|⟨g,o,c,rfl,_,h⟩
 .exact R3 p c w
 .exact Y2f l g o c w d a h
theorem Ip.Out.GK{b tc sz:Nat}{tp:Option Addr}{ts:List Sc.T}{c:Zb}{s:Pr.Dk}{w0 w w':World}{e:Ending}(h:Ip.Out b tp tc ts sz c s w e w')(hm:Ip.Mv b w0 w):Ip.Out b tp tc ts sz c s w0 e w':=by
 rcases h with⟨r,v,l,a,d,g,j,k,m,n⟩|⟨q,a,d,g⟩
 .exact .inl ⟨r,v,l,a,d,g,j,k,hm.t m,n.low hm.size⟩
 .exact .inr ⟨q,a,d,hm.t g⟩
theorem X3a{b tc sz m:Nat}{tp:Option Addr}{ts:List Sc.T}{s:Pr.Dk}(hi:X4 ts sz s Zz=true)(c2:m<=(X2 s).p)(a3:∀q:Pr.Dk,m<=q.p->q.p<=ts.length->q.bad=false->Ip.DE b tp tc ts sz q): Ip.Jr b tp tc ts sz 144 #[.p b] .e s (X2 s):=by
 intro w0 C;have F:=C.lt;have c3:=C.XP;have N:=X1 C;have V:=X1 (Ip.Mv.refl b w0);have b2:=X1 (show m<=(X2 s).p from c2);have r:(X2 s).bad=false:=(Ki hi:s.bad=false);have c6:∀(fn:Fn) (first cap:Array Value) (w:World),(Instr.makeFunc fn first cap).run prog w= .ok (.func fn first cap) w:=fun _ _ _ _=>rfl;clear C;go_enter func144,ntmps144;cases H:X4 ts sz (X2 s) [40]
 case false=>
  go_wp2_with fail;go_fit(ZX (s:=X2 s) N.o r [40] #[40] rfl H);rintro e w⟨rfl,hm⟩;have hB:=Pr.Bd.Zw (ts:=ts) (sz:=sz) (s:=X2 s) r H;exact⟨rfl,.inr ⟨_,rfl,.fn1 hi (.params1 (hB.Yn 0)),V.o.t hm⟩⟩
 go_wp2_with fail;go_fit(upI V (show m<=(X2 (X2 s)).p from Nat.le_succ_of_le b2.o) (ZY (s:=X2 s) N.o [40] #[40] rfl H));rintro e w1⟨rfl,hm,a7,A,S⟩;have HX:=X1 (show Xd ts sz (X2 s) [40]=X2 (X2 s)from Yw H);have Q:=X1 (M6 (E:=[41]) (a:=#[41]) rfl (lo:=w0.heap.size) (nb:=b) (f:=false) (m:=m) (fst:=#[.p b]) (cap:=#[]) (Ip.Gg b _) ((C6 (b:=b) (tp:=tp) (tc:=tc) (ts:=ts) (sz:=sz) (m:=m) a3).up (Xb _)) F (Aa _) (fun h=> .LF (Ki h) h) S.o r A.o.size a7.o trivial);go_wp2_with fail;go_fit Q.o;rintro e w2 (⟨y,n1,sv,l1,rfl,hf,L,c1,ho,a1,hd,hm,M,c4⟩|⟨q,rfl,hq,hm⟩);rotate_left
 .exact⟨rfl,.inr ⟨_,rfl,.fn1 hi (hq.elim (fun h=> .params1 (by rw[HX.o];exact h)) (fun⟨t,n,h1,h2⟩=> .params2 (r1:=(t,n)) (by rw[HX.o];exact h1) h2)),A.o.t hm.one⟩⟩
 obtain⟨a5,a4,rfl⟩:=M.form;have b1:=X1 hf;have b7:=X1 ho;have a0:=X1 (M.low A.o.size);have a2:=hm.one;clear ho M hf hm;have O:=X1 (show IP b tp tc ts sz (X2 y).p w2 from hd);have W:=X1 (A.o.t a2);have b3:=X1 (show m<=(X2 y).p from Nat.le_succ_of_le (Xz S.o a1));clear hd a2 Q;have j:=X1 a0.o;clear a0 a1;have HZ:=X1 (show Pr.Cv ts sz .params (X2 s) (X2 y,n1)from by have:=Pr.Cv.params (s:=X2 s) (r1:=(y,n1)) (by rw[HX.o];exact b1.o);rw[Yw c1]at this;exact this)
 cases u:X4 ts sz (X2 y) [61,62]
 case false=>
  go_wp2_with fail;go_fit(ZX (s:=X2 y) O.o L [61,62] #[61,62] rfl u);rintro e w⟨rfl,hm⟩;have hB:=Pr.Bd.Zw (ts:=ts) (sz:=sz) (s:=X2 y) L u;exact⟨rfl,.inr ⟨_,rfl,.fn2 hi HZ.o hB.e,W.o.t hm⟩⟩
 go_wp2_with fail;go_fit(upI W (Nat.le_succ_of_le b3.o) (ZY (s:=X2 y) O.o [61,62] #[61,62] rfl u));rintro e w3⟨rfl,hm,I,B,U⟩;have d:=X1 (j.o.mv hm.o F (X5 _));clear j;have HA:=X1 (show ∀q,(Value.slice a5 n1 a4).ownBlock=some q->q<w3.heap.size from fun q e=>(d.o.lt e).2);have Q:=X1 (a3 (X2 (X2 y)) U.o I.o.le L _ I.o);go_wp2_with fail;go_fit Q.o;rintro e w4 (⟨r2,v2,l2,rfl,hc,c0,ho,hd,hm,hp⟩|⟨q,rfl,hq,hm⟩);rotate_left
 .exact⟨rfl,.inr ⟨_,rfl,.fn2 hi HZ.o (by rw[Yw u];exact hq),B.o.t hm⟩⟩
 obtain⟨t2,u2,rfl⟩:=hp.iface;have a6:=X1 hc;have b8:=X1 ho;have Z:=X1 (hp.low B.o.size);have g:=X1 hp;clear ho hp;have a8:=X1 (show IP b tp tc ts sz (r2.1).p w4 from hd);have X:=X1 (B.o.t hm);have b4:=X1 (show m<=(r2.1).p from Xz U.o (hc.stp I.o.le).ge);have k:=X1 (d.o.mv hm F (X5 _));clear d;clear hd hm Q;clear hc;have J:=X1 Z.o;clear Z;go_wp2_with(at_builtin;refine M9 rfl _ _ rfl w0.heap.size w3.heap.size n1 (.slice a5 n1 a4) (.iface t2 u2) l1 l2 k.o g.o B.o.size X.o.size HA.o (by omega) rfl rfl ?_);intro v w5 M hb;obtain⟨c8,c7,rfl⟩:=M.form;have K:=X1 M;have a9:=X1 (a8.o.fresh hb F);have b5:=X1 (X.o.fresh hb (X5 _));have c5:=X1 b4.o;clear M hb k J g HA;go_wp2_with fail;go_fit(upN (15) (0) (0) ⟨#[]⟩ K a9 b5);rintro e w6⟨rfl,b9,b0,b6⟩;go_wp2;go_ret;exact .inl ⟨(X9 r2.1 15 0 0 [] (n1+1),0),_,_,rfl,.IN (r1:=(X2 y,n1)) (Yc hi (by decide)) (Yc hi (by decide)) hi HZ.o (by rw[Yw u];exact a6.o),c0,by simp[X9,b7.o,b8.o],b0.o,b6.o,b9.o⟩
theorem X5y{b tc sz m:Nat}{tp:Option Addr}{ts:List Sc.T}{s:Pr.Dk}(d:s.bad=false)(b0:m<=s.p)(a2:∀q:Pr.Dk,m<=q.p->q.p<=ts.length->q.bad=false->Ip.DE b tp tc ts sz q): Ip.Jr b tp tc ts sz 50 #[.p b] .statement s (s):=by
 intro w0 U;have a9:=U.lt;have b1:=U.XP;have J:=X1 U;have L:=X1 (Ip.Mv.refl b w0);have K:=X1 (show m<=(s).p from b0);clear U;go_enter func50,ntmps50;cases g:X4 ts sz s Z7
 case true=>
  go_wp2_with fail;go_fit(upI L (Nat.le_succ_of_le K.o) (ZH (s:=s) J.o Z7 #[100,101,102] rfl g));rintro e w1⟨rfl,hm,r,j,u⟩;have Q:=X1 (X2w g u.o a2 _ r.o);go_wp2_with fail;go_fit Q.o;rintro e w2 (⟨r1,v1,l1,rfl,V,k,X,W,hm,Z⟩|⟨q,rfl,hq,hm⟩);rotate_left
  .exact⟨rfl,.inr ⟨_,rfl,hq,j.o.t hm⟩⟩
  have HH:=X1 (Ip.Out.GK (e:= .returned v1) (.inl ⟨r1,v1,l1,rfl,V,k,X,W,hm,Z⟩) j.o);clear V X W hm Z Q;go_wp2;go_ret;exact HH.o
 cases n:X4 ts sz s XM
 case true=>
  go_wp2_with fail;go_fit(upB L (K.o) (XK (s:=s) J.o d Z7 #[100,101,102] rfl g));rintro e w1⟨rfl,hm,r,j,u⟩;go_wp2_with fail;go_fit(upI j (Nat.le_succ_of_le u.o) (ZH (s:=s) r.o XM #[108,101,116] rfl n));rintro e w2⟨rfl,hm,A,y,C⟩;have Q:=X1 (X5x n C.o a2 _ A.o);go_wp2_with fail;go_fit Q.o;rintro e w3 (⟨r1,v1,l1,rfl,V,k,X,W,hm,Z⟩|⟨q,rfl,hq,hm⟩);rotate_left
  .exact⟨rfl,.inr ⟨_,rfl,hq,y.o.t hm⟩⟩
  have HH:=X1 (Ip.Out.GK (e:= .returned v1) (.inl ⟨r1,v1,l1,rfl,V,k,X,W,hm,Z⟩) y.o);clear V X W hm Z Q;go_wp2;go_ret;exact HH.o
 cases a:X4 ts sz s K3
 case true=>
  go_wp2_with fail;go_fit(upB L (K.o) (XK (s:=s) J.o d Z7 #[100,101,102] rfl g));rintro e w1⟨rfl,hm,r,j,u⟩;go_wp2_with fail;go_fit(upB j (u.o) (XK (s:=s) r.o d XM #[108,101,116] rfl n));rintro e w2⟨rfl,hm,A,y,C⟩;go_wp2_with fail;go_fit(upI y (Nat.le_succ_of_le C.o) (ZH (s:=s) A.o K3 #[101,109,105,116] rfl a));rintro e w3⟨rfl,hm,B,E,I⟩;have a1:(X2 s).bad=false:=d;go_wp2_with fail;go_fit(upE (a2 (X2 (s)) I.o B.o.le a1 _ B.o) E I B (E.o.size));rintro e w4 (⟨r1,t1,u1,l1,rfl,a3,k,a7,hm,H,F,O,M⟩|⟨q,rfl,hq,hm⟩);rotate_left
  .exact⟨rfl,.inr ⟨_,rfl,.X0j a hq,E.o.t hm⟩⟩
  cases N:X4 ts sz (r1.1) [59]
  case false=>
   go_wp2_with fail;go_fit(ZX (s:=r1.1) H.o k [59] #[59] rfl N);rintro e w⟨rfl,hm⟩;have hB:=Pr.Bd.Zw (ts:=ts) (sz:=sz) (s:=r1.1) k N;exact⟨rfl,.inr ⟨_,rfl,.A7 a a3.o (Pr.Bd.Zw (s:=X9 r1.1 22 0 0 [] 1) k N),F.o.t hm⟩⟩
  go_wp2_with fail;go_fit(upI F (Nat.le_succ_of_le O.o) (ZY (s:=r1.1) H.o [59] #[59] rfl N));rintro e w5⟨rfl,hm,a4,S,b2⟩;have a0:=X1 (M.o.mv hm.o a9 (X5 _));clear M;go_wp2_with fail;go_fit(upM (22) (0) (0) ⟨#[]⟩ 1 (Ip.QO a0.o) rfl a4 S (S.o.size));rintro e w6⟨rfl,a8,a5,a6⟩;have HY:=X1 (show Xd ts sz (X9 r1.1 22 0 0 [] 1) [59]=X2 (X9 r1.1 22 0 0 [] 1)from Yw N);go_wp2;go_ret;exact .inl ⟨(Xd ts sz (X9 r1.1 22 0 0 [] 1) [59],0),_,_,rfl,.LR (Yc a (by decide)) (Yc a (by decide)) a a3.o,by rw[HY.o];exact k,by rw[HY.o];simp[X9,a7.o],by rw[HY.o];exact a5.o,a6.o,a8.o⟩
 cases v:X4 ts sz s Kj
 case true=>
  go_wp2_with fail;go_fit(upB L (K.o) (XK (s:=s) J.o d Z7 #[100,101,102] rfl g));rintro e w1⟨rfl,hm,r,j,u⟩;go_wp2_with fail;go_fit(upB j (u.o) (XK (s:=s) r.o d XM #[108,101,116] rfl n));rintro e w2⟨rfl,hm,A,y,C⟩;go_wp2_with fail;go_fit(upB y (C.o) (XK (s:=s) A.o d K3 #[101,109,105,116] rfl a));rintro e w3⟨rfl,hm,B,E,I⟩;go_wp2_with fail;go_fit(upI E (Nat.le_succ_of_le I.o) (ZH (s:=s) B.o Kj #[108,111,97,100] rfl v));rintro e w4⟨rfl,hm,H,F,O⟩;have Q:=X1 (X3g v O.o _ H.o);go_wp2_with fail;go_fit Q.o;rintro e w5 (⟨r1,v1,l1,rfl,V,k,X,W,hm,Z⟩|⟨q,rfl,hq,hm⟩);rotate_left
  .exact⟨rfl,.inr ⟨_,rfl,hq,F.o.t hm⟩⟩
  have HH:=X1 (Ip.Out.GK (e:= .returned v1) (.inl ⟨r1,v1,l1,rfl,V,k,X,W,hm,Z⟩) F.o);clear V X W hm Z Q;go_wp2;go_ret;exact HH.o
 go_wp2_with fail;go_fit(upB L (K.o) (XK (s:=s) J.o d Z7 #[100,101,102] rfl g));rintro e w1⟨rfl,hm,r,j,u⟩;go_wp2_with fail;go_fit(upB j (u.o) (XK (s:=s) r.o d XM #[108,101,116] rfl n));rintro e w2⟨rfl,hm,A,y,C⟩;go_wp2_with fail;go_fit(upB y (C.o) (XK (s:=s) A.o d K3 #[101,109,105,116] rfl a));rintro e w3⟨rfl,hm,B,E,I⟩;go_wp2_with fail;go_fit(upB E (I.o) (XK (s:=s) B.o d Kj #[108,111,97,100] rfl v));rintro e w4⟨rfl,hm,H,F,O⟩;have Q:=X1 (Lh (s:=s) H.o);go_wp2_with fail;go_fit Q.o;rintro e w5⟨rfl,hb⟩;have S:=X1 (F.o.more hb);clear hb Q;go_wp2;exact⟨rfl,.inr ⟨_,rfl,.st0 d g n a v,S.o⟩⟩
