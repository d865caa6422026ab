import Derived.Test.YtkoiikmhfaebnaaGreatDoorB32
set_option maxHeartbeats 4000000
set_option maxRecDepth 100000
namespace Go.Proofs.YtkoiikmhfaebnaaGreatDoor
open Tryz Go.RowKit
theorem N7(a b:Int)(x:Gr)(r:List Gr):XY a b (x::r)=(decide (a<=x.nd.kind)&&decide (x.nd.kind<=b)&&XY a b r):=rfl
theorem Rp(p:Option Addr)(c:Nat)(a b:Int)(w:World): Calls prog 150 #[.slice p 0 c,.int .i64 a,.int .i64 b] w fun e w'=>e= .returned (.bool true)/\Below w.heap.size w w':=by
 go_enter func150,ntmps150;go_wp2;go_loop[11] (fun t=>t= .int .i64 0) (fun _=>0)
 case atStart=>rfl
 case round=>
  subst hrel;go_wp2;go_ret;exact⟨rfl,X5 _ _⟩
theorem Xan(l:List Gr)(g o c:Nat)(a b:Int)(w:World)(A:l.length<=1048576)(s:KN w g o l): Calls prog 150 #[.slice (some ⟨g,o,none⟩) l.length c,.int .i64 a,.int .i64 b] w fun e w'=>e= .returned (.bool (XY a b l))/\Below w.heap.size w w':=by
 have u:=X1 s;clear s;go_enter func150,ntmps150;go_wp2;go_loopw[11] (fun t wr=>∃j:Nat,j<=l.length/\t= .int .i64 j/\BL w wr/\XY a b l=XY a b (l.drop j)) (fun t _=>l.length-(intOf t).toNat)
 case atStart=>exact⟨0,X6 _,rfl,X5 _ _,by simp⟩
 case round=>
  obtain⟨j,z,rfl,d,r⟩:=hrel;have q:=X1 r;clear r;by_cases m:j<l.length
  .obtain⟨c0,c1,c2,c3,c4,c5⟩:=(u.o.below d).2 j m;have n:=X1 (show XY a b l=(decide (a<=l[j].nd.kind)&&decide (l[j].nd.kind<=b)&&XY a b (l.drop (j+1))) by rw[q.o,Zp m,N7]);generalize l[j].nd.kind=k at *;by_cases v:k<a
   .go_wp2;go_ret;refine⟨Xf ?_,d.alloc d.size _⟩;rw[n.o,Yb (by omega:¬a<=k)];rfl
   .by_cases y:b<k
    .go_wp2;go_ret;refine⟨Xf ?_,d.alloc d.size _⟩;rw[n.o,Yb (by omega:¬k<=b)];simp
    .go_wp2;go_roundw
     case rel=>exact⟨j+1,by omega,by go_num,d.alloc d.size _,by rw[n.o,YJ (by omega:a<=k),YJ (by omega:k<=b)];simp⟩
     case measure=>simp[intOf];omega
  .go_wp2;go_ret;refine⟨Xf ?_,d⟩;rw[q.o,Yu (by omega)];rfl
theorem QG(l:List Gr)(v:Value)(a b:Int)(w:World)(d:l.length<=1048576)(j:GrV w v l): Calls prog 150 #[v,.int .i64 a,.int .i64 b] w fun e w'=>e= .returned (.bool (XY a b l))/\Below w.heap.size w w':=by
 rcases j with⟨p,c,rfl,rfl⟩|⟨g,o,c,rfl,_,h⟩
 .exact Rp p c a b w
 .exact Xan l g o c a b w d h
theorem Tv(l:List Gr)(j h:Nat)(a:j<l.length):Zr (l.drop j) h=Zr (l.drop (j+1)) (if h<l[j].high+1 then l[j].high+1 else h):=by
 rw[Zp a];rfl
theorem X7h(p:Option Addr)(c:Nat)(w:World): Calls prog 88 #[.slice p 0 c] w fun e w'=>e= .returned (.int .i64 0)/\Below w.heap.size w w':=by
 go_enter func88,ntmps88;go_wp2;go_loop[3,8] (fun a t=>a= .int .i64 0/\t= .int .i64 0) (fun _ _=>0)
 case atStart=>exact⟨rfl,rfl⟩
 case round=>
  obtain⟨rfl,rfl⟩:=hrel;go_wp2;go_ret;exact⟨rfl,X5 _ _⟩
theorem X7i(l:List Gr)(g o c:Nat)(w:World)(B:l.length<=1048576)(m:∀x∈l,x.high<=1048576)(s:KN w g o l): Calls prog 88 #[.slice (some ⟨g,o,none⟩) l.length c] w fun e w'=>e= .returned (.int .i64 (Zr l 0))/\Below w.heap.size w w':=by
 have v:=X1 s;have u:=X1 m;clear s m;go_enter func88,ntmps88;go_wp2;go_loopw[3,8] (fun a t wr=>∃j h:Nat,j<=l.length/\t= .int .i64 j/\a= .int .i64 h/\h<=1048577/\BL w wr/\Zr l 0=Zr (l.drop j) h) (fun _ t _=>l.length-(intOf t).toNat)
 case atStart=>exact⟨0,0,X6 _,rfl,rfl,by omega,X5 _ _,by simp⟩
 case round=>
  obtain⟨j,h,A,rfl,rfl,m,k,r⟩:=hrel;have n:=X1 r;clear r;by_cases d:j<l.length
  .obtain⟨c0,c1,c2,c3,c4,c5⟩:=(v.o.below k).2 j d;have q:=X1 (show Zr l 0=Zr (l.drop (j+1)) (if h<l[j].high+1 then l[j].high+1 else h) by rw[n.o,Tv l j h d]);have C:=u.o _ (XR d);generalize l[j].high=y at *;by_cases z:(h:Int)<(y:Int)+1
   .go_wp2;go_roundw
    case rel=>exact⟨j+1,y+1,by omega,by go_num,by first|go_num|(congr 1;omega),by omega,k.alloc k.size _,by rw[q.o,X3 (by omega)]⟩
    case measure=>simp[intOf];omega
   .go_wp2;go_roundw
    case rel=>exact⟨j+1,h,by omega,by go_num,by first|rfl|(congr 1;omega),by omega,k.alloc k.size _,by rw[q.o,X2 (by omega)]⟩
    case measure=>simp[intOf];omega
  .go_wp2;go_ret;refine⟨Jy ?_,k⟩;rw[n.o,Yu (by omega)];rfl
theorem Rb(l:List Gr)(v:Value)(w:World)(d:l.length<=1048576)(a:∀x∈l,x.high<=1048576)(j:GrV w v l): Calls prog 88 #[v] w fun e w'=>e= .returned (.int .i64 (Zr l 0))/\Below w.heap.size w w':=by
 rcases j with⟨p,c,rfl,rfl⟩|⟨g,o,c,rfl,_,h⟩
 .exact X7h p c w
 .exact X7i l g o c w d a h
def Vk(L:List (List UInt8))(x:List UInt8):List (List UInt8):=if x∈L then L else L++[x]
theorem N1(L:List (List UInt8))(x:List UInt8):Maps.addKey (L.map Lit.string) (.string x)=(Vk L x).map Lit.string:=by
 unfold Maps.addKey Vk;have h:(L.map Lit.string).any (fun y=>y.sameKey (.string x))=decide (x∈L):=by
  rw[Y5];simp[Lit.sameKey]
 rw[h];by_cases e:x∈L
 .simp[e]
 .simp[e]
theorem NI(a L:List (List UInt8)):(a.map Lit.string).foldl Maps.addKey (L.map Lit.string)=(a.foldl Vk L).map Lit.string:=by
 induction a generalizing L with
 | nil=>rfl
 | cons x r c=>rw[Xu,ZI,ZI,N1,c]
theorem NJ(d L:List (List UInt8)):(d.foldl Vk L).length<=L.length+d.length/\((d.foldl Vk L).length=L.length+d.length↔d.Nodup/\∀x∈d,x∉L):=by
 induction d generalizing L with
 | nil=>simp
 | cons x r k=>
  rw[ZI];by_cases e:x∈L
  .have j:=(k L).1;have:Vk L x=L:=X3 e;rw[this];refine⟨by simp only[Ya];omega,⟨fun h=>?_,fun h=>absurd e (h.2 x (by simp))⟩⟩;simp only[Ya]at h;omega
  .have j:=k (L++[x]);have:Vk L x=L++[x]:=X2 e;rw[this];simp only[Xo,Ya,ZN]at j⊢;refine⟨by omega,?_⟩;rw[show(r.foldl Vk (L++[x])).length=L.length+(r.length+1)↔(r.foldl Vk (L++[x])).length=L.length+(0+1)+r.length from by omega,j.2]
   simp only[List.nodup_cons,K7,Y6,ZA,Zy];constructor
   .rintro⟨a,b⟩;exact⟨⟨fun h=>(b x h) (.inr rfl),a⟩,fun y g=>by
     rcases g with rfl|g
     .exact e
     .exact fun h=>b y g (.inl h)⟩
   .rintro⟨⟨a,b⟩,c⟩;exact⟨b,fun y g h=>by
     rcases h with h|rfl
     .exact c y (.inr g) h
     .exact a g⟩
def JK(l:List Gr):List Lit:=l.map fun g=>Lit.string g.nd.text.data.toList
theorem Ta(l:List Gr):∀x∈JK l,WideAt.IsKeyLit x:=by
 intro x a;simp only[JK,Zq]at a;obtain⟨y,_,rfl⟩:=a;trivial
theorem Ni(l:List Gr):(Maps.size (Maps.setOf (H:=Unit) (.agg []) (JK l))=l.length↔Qn l=true)/\Maps.size (Maps.setOf (H:=Unit) (.agg []) (JK l))<=l.length:=by
 have e:JK l=(l.map fun g=>g.nd.text.data.toList).map Lit.string:=by simp[JK]
 have h:=NJ (l.map fun g=>g.nd.text.data.toList) [];have f:=NI (l.map fun g=>g.nd.text.data.toList) [];rw[Maps.size_setOf _ _ (Ta l),e,show([]:List Lit)=List.map Lit.string []from rfl,f,Z9];simp only[ZN,Xn,Z9]at h;refine⟨h.2.trans ?_,h.1⟩;unfold Qn;rw[Qr];simp only[ZA,Eh,implies_true,and_true];rw[SY,SY,SZ,SZ];constructor
 .intro q;exact q.imp fun hne e=>hne (by rw[e])
 .intro q;exact q.imp fun hne e=>hne (Wx (Ww.1 e))
theorem So(p:Option Addr)(c:Nat)(w:World): Calls prog 151 #[.slice p 0 c] w fun e w'=>e= .returned (.bool true)/\Below w.heap.size w w':=by
 have d:=@Gp prog;have a:=Ic (H:=Unit) w prog 9 unitElem;go_enter func151,ntmps151;go_wp2;go_loopw[9] (fun t wr=>t= .int .i64 0/\wr=w.alloc (.map #[] 0)) (fun _ _=>0)
 case atStart=>exact⟨rfl,rfl⟩
 case round=>
  obtain⟨rfl,rfl⟩:=hrel;go_wp2_with(at_len;refine wpList_len_own _ rfl _ 152 rfl 9 247 underlying152 _ w.heap.size _ _ rfl a ?_);go_ret;exact⟨rfl,bA _⟩
theorem Y3v(l:List Gr)(g o c:Nat)(w:World)(N:l.length<=1048576)(z:∀x∈l,x.nd.text.size<=1048576)(A:KN w g o l): Calls prog 151 #[.slice (some ⟨g,o,none⟩) l.length c] w fun e w'=>e= .returned (.bool (Qn l))/\Below w.heap.size w w':=by
 have K:=@Gp prog;have q:=Ic (H:=Unit) w prog 9 unitElem;have u:BL w (w.alloc (.map #[] 0)):=bA _;have I:=X1 A;have B:=X1 z;have F:=X1 q;clear A z q;go_enter func151,ntmps151;go_wp2;go_loopw[9] (fun t wr=>∃j:Nat,j<=l.length/\t= .int .i64 j/\BL w wr/\w.heap.size<wr.heap.size/\wr.ownsMap (H:=Unit) prog 9 unitElem w.heap.size j (Maps.setOf (.agg []) (JK (l.take j)))) (fun t _=>l.length-(intOf t).toNat)
 case atStart=>exact⟨0,X6 _,rfl,u,by simp,F.o⟩
 case round=>
  obtain⟨j,M,rfl,r,Q,m⟩:=hrel;have y:=X1 m;clear m;by_cases n:j<l.length
  .obtain⟨c0,c1,c2,c3,c4,c5⟩:=(I.o.below r).2 j n;have P:=B.o _ (XR n);have C:=X1 (show Maps.setOf (H:=Unit) (.agg []) (JK (l.take (j+1)))=(Maps.setOf (.agg []) (JK (l.take j))).put (.string l[j].nd.text.data.toList) (.agg []) by
    rw[←Maps.setOf_snoc];congr 1;unfold JK;rw[Kt n,ZO];rfl)
   have J:Hid (keyOf prog 9 (.string l[j].nd.text)=some (.string l[j].nd.text.data.toList)):=X1 (Ib underlying9 (by unfold maxLen;omega));generalize l[j].nd.text=S at *;go_wp2_with(at_mapUpdate;refine FY _ rfl _ _ _ 152 rfl 9 247 Rx underlying152 _ w.heap.size j _ rfl (y.o.alloc _) (by unfold maxLen;omega) _ _ _ rfl rfl J.o _ [] unitElem_mk ?_);intro w1 d a;have s:BL w w1:=(r.alloc r.size _).grown a (by simp;omega) (fun k e=>by cases e;exact X4 _);have v:w.heap.size<w1.heap.size:=by have:=a.size;simp at this;omega
   rw[←C.o]at d;go_wp2;go_roundw
   case rel=>exact⟨j+1,by omega,by go_num,s,v,d⟩
   case measure=>simp[intOf];omega
  .have L:=Ni l;have E:Hid (wr.ownsMap (H:=Unit) prog 9 unitElem w.heap.size j (Maps.setOf (.agg []) (JK l))):=X1 (by have:=y.o;rwa[U7 (by omega)]at this);generalize Maps.setOf (H:=Unit) (.agg []) (JK l)=D at *;go_wp2_with(at_len;refine wpList_len_own _ rfl _ 152 rfl 9 247 underlying152 _ w.heap.size j D rfl E.o ?_);all_goals
    go_ret;refine⟨Xf ?_,r⟩;rw[Y5,←L.1];simp;omega
theorem Fh(l:List Gr)(v:Value)(w:World)(d:l.length<=1048576)(a:∀x∈l,x.nd.text.size<=1048576)(j:GrV w v l): Calls prog 151 #[v] w fun e w'=>e= .returned (.bool (Qn l))/\Below w.heap.size w w':=by
 rcases j with⟨p,c,rfl,rfl⟩|⟨g,o,c,rfl,_,h⟩
 .exact So p c w
 .exact Y3v l g o c w d a h
theorem Wd(s:ByteArray)(b:Nat)(w:World)(u:s.size<=1048576)(m:w.ownsMap (H:=Unit) prog 9 unitElem b 17 Sc.KM): Calls prog 149 #[.string s,.map (some b)] w fun e w'=>e= .returned (.bool (KT s))/\Below w.heap.size w w':=by
 have a:=X0s s;have r:=X1 m;clear m;by_cases k:s.size=0
 .have t:(s.toList==[])=true:=by rw[a];simpa using k
  have c:=X1 (Tr.Xch s k);clear a;go_enter func149,ntmps149;go_wp2;go_ret;exact⟨Xf c.o.symm,X5 _ _⟩
 .have t:(s.toList==[])=false:=by rw[a];simpa using k
  have j:0<s.size:=by omega
  have c:=X1 (Tr.Xci s j);clear a;by_cases l:30<(s.size:Int)
  .go_enter func149,ntmps149;go_wp2;go_ret;exact⟨Xf (by rw[c.o];simp[l]),X5 _ _⟩
  .cases d:Sc.dig s[0]
   .have q:Hid (keyOf prog 9 (.string s)=some (.string s.data.toList)):=X1 (Ib underlying9 (by unfold maxLen;omega));have g:=Sc.X7e (H:=Unit) s.data.toList;cases n:decide (s.data.toList∈Sc.words);all_goals
     rw[n]at g;go_enter func149,ntmps149;go_wp2_with(first|(go_at_call 215;refine(Rc _ _).mono ?_;rintro e w'⟨rfl,rfl⟩)|(at_lookup;refine wpList_lookup_own_unit _ rfl _ _ 152 rfl 9 247 Rx underlying152 (Y6z _) b 17 Sc.KM rfl r.o _ _ rfl q.o ?_)|(go_at_call 216;refine(Xcj _ _ u).mono ?_;rintro e w'⟨rfl,rfl⟩));go_ret;refine⟨Xf ?_,bA _⟩;rw[c.o,d,n];first
     | (simp;done)
     | (rw[Y5];simp;omega)
   .go_enter func149,ntmps149;go_wp2_with(go_at_call 215;refine(Rc _ _).mono ?_;rintro e w'⟨rfl,rfl⟩);go_ret;exact⟨Xf (by rw[c.o,d];simp),X5 _ _⟩
theorem Tw(b:UInt8):QN b=(Sc.nm b||!decide (Lib.indexByte [45,46,47] b<0)):=by
 have h:∀n,n<256->QN (UInt8.ofNat n)=(Sc.nm (UInt8.ofNat n)||!decide (Lib.indexByte [45,46,47] (UInt8.ofNat n)<0)):=by decide +kernel
 have:=h b.toNat b.toNat_lt;simpa using this
theorem Xfe(b:UInt8)(w:World):Calls prog 214 #[.string ⟨#[45,46,47]⟩,.int .u8 b.toNat] w fun e w'=>e= .returned (.int .i64 (Lib.indexByte [45,46,47] b))/\w'=w:=by
 have h:=strings_IndexByte ⟨#[45,46,47]⟩ b.toNat w;rw[show((b.toNat:Int)).toNat.toUInt8=b from by simp]at h
 exact h
theorem X9f(s:ByteArray)(w:World)(B:s.size<=1048576): Calls prog 148 #[.string s] w fun e w'=>e= .returned (.bool (Uc s))/\w'=w:=by
 have m:=X1 (show Uc s=(Xl s.size 1 30&&KA QN s.data.toList)from rfl);go_enter func148,ntmps148;go_wp2;go_loop[6] (fun t=>∃j:Nat,j<=s.size/\t= .int .i64 j/\KA QN s.data.toList=KA QN (s.data.toList.drop j)) (fun t=>s.size-(intOf t).toNat)
 case atStart=>exact⟨0,X6 _,rfl,by simp⟩
 case round=>
  obtain⟨j,A,rfl,n⟩:=hrel;have k:=X1 n;clear n;by_cases d:j<s.size
  .have u:=X1 (Sc.drop_cons s j d);have c:=X1 (show KA QN s.data.toList=(QN s[j]&&KA QN (s.data.toList.drop (j+1))) by rw[k.o,u.o,DK]);have a:=X1 (Tw s[j]);have l:=X1 (Xfe s[j]);cases g:Sc.nm s[j]
   .generalize Lib.indexByte [45,46,47] s[j]=q at *;by_cases v:q<0
    .go_wp2_with(first|(go_at_call 213;refine(IG _ _).mono ?_;rintro e w'⟨rfl,rfl⟩)|(go_at_call 214;refine(l.o _).mono ?_;rintro e w'⟨rfl,rfl⟩));go_ret;exact⟨Xf (by rw[m.o,c.o,a.o,g];simp[v]),rfl⟩
    .go_wp2_with(first|(go_at_call 213;refine(IG _ _).mono ?_;rintro e w'⟨rfl,rfl⟩)|(go_at_call 214;refine(l.o _).mono ?_;rintro e w'⟨rfl,rfl⟩));go_round
     case rel=>exact⟨j+1,by omega,by go_num,by rw[c.o,a.o,g,Yb (by omega:¬q<0)];rfl⟩
     case measure=>simp[intOf];omega
   .go_wp2_with(first|(go_at_call 213;refine(IG _ _).mono ?_;rintro e w'⟨rfl,rfl⟩));go_round
    case rel=>exact⟨j+1,by omega,by go_num,by rw[c.o,a.o,g];rfl⟩
    case measure=>simp[intOf];omega
  .have r:=X1 (show Uc s=Xl s.size 1 30 by
    rw[m.o,k.o,Yu (i:=j) (by simp;omega)];simp[KA])
   by_cases y:1<=(s.size:Int);all_goals by_cases z:(s.size:Int)<=30
   all_goals
    go_wp2;go_ret;exact⟨Xf (by rw[r.o];simp[Xl];try omega),rfl⟩
theorem PK(k op n m:Int)(s:ByteArray)(w:World): Calls prog 86 #[.agg #[.int .i64 k,.int .i64 op,.int .i64 n,.string s,.int .i64 m]] w fun e w'=>e= .returned (.bool (Qb k m))/\Below w.heap.size w w':=by
 by_cases d:1<=k/\k<=24
 .obtain⟨j,a,c,rfl⟩:∃j:Nat,1<=j/\j<=24/\k=j:=⟨k.toNat,by omega,by omega,by omega⟩;clear d;have l:j=1\/j=2\/j=3\/j=4\/j=5\/j=6\/j=7\/j=8\/j=9\/j=10\/j=11\/j=12\/j=13\/j=14\/j=15\/j=16\/j=17\/j=18\/j=19\/j=20\/j=21\/j=22\/j=23\/j=24:=by omega
  clear a c;rcases l with rfl|rfl|rfl|rfl|rfl|rfl|rfl|rfl|rfl|rfl|rfl|rfl|rfl|rfl|rfl|rfl|rfl|rfl|rfl|rfl|rfl|rfl|rfl|rfl;all_goals
   go_enter func86,ntmps86;go_wp2;all_goals
    go_ret;refine⟨Xf ?_,bA _⟩;simp only[Qb];first
    | (simp[*];done)
    | (rw[Y5];simp;omega)
    | (simp;omega)
 .have g:=X1 (show Qb k m=false by
   unfold Qb;repeat rw[X2 (by omega)]
   rw[decide_eq_false_iff_not];omega)
  have K:(k==1)=false:=by simp;omega
  have L:(k==2)=false:=by simp;omega
  have M:(k==3)=false:=by simp;omega
  have N:(k==4)=false:=by simp;omega
  have P:(k==5)=false:=by simp;omega
  have Q:(k==6)=false:=by simp;omega
  have S:(k==7)=false:=by simp;omega
  have V:(k==8)=false:=by simp;omega
  have W:(k==9)=false:=by simp;omega
  have q:(k==10)=false:=by simp;omega
  have r:(k==11)=false:=by simp;omega
  have t:(k==12)=false:=by simp;omega
  have u:(k==13)=false:=by simp;omega
  have v:(k==14)=false:=by simp;omega
  have y:(k==15)=false:=by simp;omega
  have z:(k==16)=false:=by simp;omega
  have A:(k==17)=false:=by simp;omega
  have B:(k==18)=false:=by simp;omega
  have C:(k==19)=false:=by simp;omega
  have D:(k==20)=false:=by simp;omega
  have E:(k==21)=false:=by simp;omega
  have F:(k==22)=false:=by simp;omega
  have H:(k==23)=false:=by simp;omega
  have I:(k==24)=false:=by simp;omega
  clear d;by_cases J:0<=m;all_goals
   go_enter func86,ntmps86;go_wp2;all_goals
    go_ret;refine⟨Xf ?_,bA _⟩;rw[g.o]<;>first|rfl|(simp;done)|(simp;omega)
end Go.Proofs.YtkoiikmhfaebnaaGreatDoor
namespace Go.Proofs.YtkoiikmhfaebnaaGreatDoor.Vl
open Tryz Go.RowKit T.atoms T.ok T.high T.Y0 T.Ko Xs T.ord
theorem Y3n(f:FuncId)(w:World):Calls prog 61 #[.func (.func f) #[] #[]] w fun e w'=>e= .returned (.agg #[.int .i64 1,.func (.func 118) #[] #[.pointer (some ⟨w.heap.size,0,none⟩)]])/\w'.cell? ⟨w.heap.size,0,none⟩=some (.func (.func f) #[] #[])/\Below w.heap.size w w'/\w.heap.size<w'.heap.size:=by
 have a:=Qy prog;go_enter func61,ntmps61;go_wp2;refine X7 (v:= .agg #[.int .i64 1,.func (.func 118) #[] #[.pointer (some ⟨w.heap.size,0,none⟩)]]) (by simp[results,results61,go_sem]) rfl ⟨rfl,?_,?_,by simp;omega⟩
 .exact(((X5 (w.heap.size+1) (w.alloc (.cells #[.func (.func f) #[] #[]] 103))).alloc (by simp) _).cell (p:=⟨w.heap.size,0,none⟩) (XI _)).trans (by simp)
 .exact(bA _).alloc (by simp) _
theorem Y3q(f:FuncId)(w:World):Calls prog 63 #[.func (.func f) #[] #[]] w fun e w'=>e= .returned (.agg #[.int .i64 1,.func (.func 119) #[] #[.pointer (some ⟨w.heap.size,0,none⟩)]])/\w'.cell? ⟨w.heap.size,0,none⟩=some (.func (.func f) #[] #[])/\Below w.heap.size w w'/\w.heap.size<w'.heap.size:=by
 have a:=Qy prog;go_enter func63,ntmps63;go_wp2;refine X7 (v:= .agg #[.int .i64 1,.func (.func 119) #[] #[.pointer (some ⟨w.heap.size,0,none⟩)]]) (by simp[results,results63,go_sem]) rfl ⟨rfl,?_,?_,by simp;omega⟩
 .exact(((X5 (w.heap.size+1) (w.alloc (.cells #[.func (.func f) #[] #[]] 106))).alloc (by simp) _).cell (p:=⟨w.heap.size,0,none⟩) (XI _)).trans (by simp)
 .exact(bA _).alloc (by simp) _
def Gz(b c:Nat):DataW Value:=((DataW.map []).put (.int .i64 1) (.held (Xt 1 118 b))).put (.int .i64 2) (.held (Xt 1 119 c))
theorem Y5c(w:World):Calls prog 13 #[] w fun e w'=>∃b c,e= .returned (.map (some w.heap.size))/\w'.ownsMap prog 3 UK w.heap.size 2 (Gz b c)/\w'.cell? ⟨b,0,none⟩=some (.func (.func 62) #[] #[])/\w'.cell? ⟨c,0,none⟩=some (.func (.func 64) #[] #[])/\Below w.heap.size w w':=by
 have Q:=@Gp prog;have L:=X1 (Ic (H:=Value) w prog 3 UK);have S:BL w (w.alloc (.map #[] 0)):=bA _;go_enter func13,ntmps13;go_wp2_with fail;refine(Y3n _ _).mono ?_;rintro e w1⟨rfl,q,m,F⟩;rw[Xb]at q m F;have B:=X1 (Da L.o (by rw[BL,Xb];exact m));have t:=X1 q;have M:=S.trans (m.mono (UF _));clear q m L;go_wp2_with(show wpList _ _ _ ({dst:=_,op:=Op.insert _ _ _ _,type:=_,pos:=_,after:=_,guard:=_}::_) _ _;go_must (refine QA _ rfl _ _ _ 38 rfl 3 71 Qv underlying38 _ w.heap.size 0 _ rfl B.o (by unfold maxLen;omega) _ _ _ rfl rfl (Qt 1 (by decide)) _ [] rfl ?_));intro s j d;have I:w.heap.size+1<s.heap.size:=by have:=d.size;omega
 have K:BL w s:=M.grown d (by omega) (fun k e=>by cases e;exact X4 _);have u:=X1 ((Xy (a:=⟨w.heap.size+1,0,none⟩) (d.block (w.heap.size+1) (by omega) (by simp))).trans t.o);have C:=X1 j;clear j d;go_wp2_with fail;refine(Y3q _ _).mono ?_;rintro e W⟨rfl,r,n,J⟩;have D:=X1 (Da C.o n);have v:=X1 ((n.cell (p:=⟨w.heap.size+1,0,none⟩) I).trans u.o);have z:=X1 r;have N:=K.trans (n.mono K.size);clear r n;go_wp2_with(show wpList _ _ _ ({dst:=_,op:=Op.insert _ _ _ _,type:=_,pos:=_,after:=_,guard:=_}::_) _ _;go_must (refine QA _ rfl _ _ _ 38 rfl 3 71 Qv underlying38 _ w.heap.size 1 _ rfl D.o (by unfold maxLen;omega) _ _ _ rfl rfl (Qt 2 (by decide)) _ [] rfl ?_));intro V l g;have P:BL w V:=N.grown g (by omega) (fun k e=>by cases e;exact X4 _);have y:=X1 ((Xy (a:=⟨w.heap.size+1,0,none⟩) (g.block (w.heap.size+1) (by omega) (by simp))).trans v.o);have A:=X1 ((Xy (a:=⟨s.heap.size,0,none⟩) (g.block s.heap.size J (by simp;omega))).trans z.o);have E:=X1 l;clear l g;go_wp2;go_ret;exact⟨w.heap.size+1,s.heap.size,rfl,E.o,y.o,A.o,P⟩
def Sy(op:Int)(b c:Nat):Value:=if op=1 then Xt 1 118 b else if op=2 then Xt 1 119 c else .agg #[.int .i64 0,.nilFunc]
theorem Y5e(op:Int)(b c g:Nat)(w:World)(l:(Lit.int .i64 op).wf=true)(h:w.ownsMap prog 3 UK g 2 (Gz b c)):(Instr.lookup 38 (.map (some g)) (.int .i64 op) false).run prog w= .ok (Sy op b c) w:=by
 obtain⟨v,m,ZL,k⟩:=h.lookup Qv underlying38 (Hc w) (zd:= .held (.agg #[.int .i64 0,.nilFunc])) (zp:=[]) rfl (Qt op l);rw[ZL];have e:DataW.held v=(Gz b c).atKey (.int .i64 op) (.held (.agg #[.int .i64 0,.nilFunc])):=by
  have:=Zd (fun o=>o.map Prod.fst) k;simpa[UK]using this
 have j:(Gz b c).atKey (.int .i64 op) (.held (.agg #[.int .i64 0,.nilFunc]))= .held (Sy op b c):=by
  unfold Gz Sy;by_cases a:op=1
  .subst a;rw[X3 rfl,Lv (by intro h;cases h),P5 Maps.isMap_empty (show WideAt.IsKeyLit (.int .i64 1)from trivial)]
  .by_cases d:op=2
   .subst d;rw[X2 a,X3 rfl,P5 (Maps.isMap_empty.put _ _) (show WideAt.IsKeyLit (.int .i64 2)from trivial)]
   .rw[X2 a,X2 d,Lv (by intro h;cases h;exact d rfl),Lv (by intro h;cases h;exact a rfl)];rfl
 rw[j]at e;cases e;rfl
def txt(l:List UInt8):ByteArray:=⟨l.toArray⟩
def FT:List UInt8:=[116,121,112,101]
def SB:List UInt8:=[114,97,110,103,101]
theorem Xcx(b:Bool)(w:World):Calls prog 62 #[.bool b] w fun e w'=>e= .returned (.tuple #[.iface 73 (.bool !b),.string ⟨#[]⟩])/\w'=w:=by
 go_enter func62,ntmps62;go_wp2;go_ret2;exact⟨rfl,rfl⟩
def Je(n:Int):Value:=if n= -9223372036854775808 then .tuple #[.nilIface,.string (txt SB)]else .tuple #[.iface 96 (.int .i64 (-n)),.string ⟨#[]⟩]
theorem Y2u(n:Int)(w:World)(k:-9223372036854775808<=n)(l:n<=9223372036854775807):Calls prog 57 #[.int .i64 0,.int .i64 n] w fun e w'=>e= .returned (Je n)/\w'=w:=by
 unfold Je;by_cases a:n= -9223372036854775808
 .subst a;rw[X3 rfl];have c:wrap64 9223372036854775808= -9223372036854775808:=by unfold wrap64;omega
  go_enter func57,ntmps57;go_wp2;go_ret2;exact⟨rfl,rfl⟩
 .rw[X2 a];have m:wrap64 (0-n)= -n:=by unfold wrap64;omega
  have g:wrap64 (-n)= -n:=by unfold wrap64;omega
  by_cases j:n<0
  .have d:0 < -n:=by omega
   go_enter func57,ntmps57;go_wp2;go_ret2;exact⟨rfl,rfl⟩
  .have d:¬0 < -n:=by omega
   go_enter func57,ntmps57;go_wp2;go_ret2;exact⟨rfl,rfl⟩
theorem Xcs(n:Int)(w:World)(d:-9223372036854775808<=n)(g:n<=9223372036854775807):Calls prog 64 #[.int .i64 n] w fun e w'=>e= .returned (Je n)/\w'=w:=by
 have c:=X1 (Y2u n);by_cases j:n= -9223372036854775808
 .subst j;have a:Je (-9223372036854775808)= .tuple #[.nilIface,.string (txt SB)]:=by unfold Je;rw[X3 rfl]
  rw[a]at c;rw[a];clear a;go_enter func64,ntmps64;go_wp2_with(go_at_call 57;refine(c.o _ d g).mono ?_;rintro e w'⟨rfl,rfl⟩);go_ret2;exact⟨rfl,rfl⟩
 .have a:Je n= .tuple #[.iface 96 (.int .i64 (-n)),.string ⟨#[]⟩]:=by unfold Je;rw[X2 j]
  rw[a]at c;rw[a];clear a;go_enter func64,ntmps64;go_wp2_with(go_at_call 57;refine(c.o _ d g).mono ?_;rintro e w'⟨rfl,rfl⟩);go_ret2;exact⟨rfl,rfl⟩
theorem Y3m(b:Bool){a:Nat}(g k:Nat)(w:World)(c:w.cell? ⟨g,0,none⟩=some (.iface 73 (.bool b)))(d:w.cell? ⟨k,0,none⟩=some (.func (.func 62) #[] #[])): Calls prog 118 #[.slice (some ⟨g,0,none⟩) 1 a,.pointer (some ⟨k,0,none⟩)] w fun e w'=>e= .returned (.tuple #[.iface 73 (.bool !b),.string ⟨#[]⟩])/\w'=w:=by
 have j:=Wq b;go_enter func118,ntmps118;go_wp2_with(go_at_call 62;refine(Xcx _ _).mono ?_;rintro e w'⟨rfl,rfl⟩);go_ret2;exact⟨rfl,rfl⟩
theorem Y3l(y:TypeId)(u:Value)(c:¬y=73){a:Nat}(g k:Nat)(w:World)(d:w.cell? ⟨g,0,none⟩=some (.iface y u)): Calls prog 118 #[.slice (some ⟨g,0,none⟩) 1 a,.pointer (some ⟨k,0,none⟩)] w fun e w'=>e= .returned (.tuple #[.nilIface,.string (txt FT)])/\w'=w:=by
 have j:=fun w=>Lb y u w c;go_enter func118,ntmps118;go_wp2;go_ret2;exact⟨rfl,rfl⟩
theorem Y3p(n:Int)(d:-9223372036854775808<=n)(j:n<=9223372036854775807){m:Nat}(g k:Nat)(w:World)(q:w.cell? ⟨g,0,none⟩=some (.iface 96 (.int .i64 n)))(r:w.cell? ⟨k,0,none⟩=some (.func (.func 64) #[] #[])): Calls prog 119 #[.slice (some ⟨g,0,none⟩) 1 m,.pointer (some ⟨k,0,none⟩)] w fun e w'=>e= .returned (Je n)/\w'=w:=by
 have s:=Ws n;have c:=X1 (fun w=>Xcs n w d j);by_cases l:n= -9223372036854775808
 .subst l;have a:Je (-9223372036854775808)= .tuple #[.nilIface,.string (txt SB)]:=by unfold Je;rw[X3 rfl]
  rw[a]at c;rw[a];clear a d j;go_enter func119,ntmps119;go_wp2_with(go_at_call 64;refine(c.o _).mono ?_;rintro e w'⟨rfl,rfl⟩);go_ret2;exact⟨rfl,rfl⟩
 .have a:Je n= .tuple #[.iface 96 (.int .i64 (-n)),.string ⟨#[]⟩]:=by unfold Je;rw[X2 l]
  rw[a]at c;rw[a];clear a d j l;go_enter func119,ntmps119;go_wp2_with(go_at_call 64;refine(c.o _).mono ?_;rintro e w'⟨rfl,rfl⟩);go_ret2;exact⟨rfl,rfl⟩
theorem Y3o(y:TypeId)(u:Value)(c:¬y=96){a:Nat}(g k:Nat)(w:World)(d:w.cell? ⟨g,0,none⟩=some (.iface y u)): Calls prog 119 #[.slice (some ⟨g,0,none⟩) 1 a,.pointer (some ⟨k,0,none⟩)] w fun e w'=>e= .returned (.tuple #[.nilIface,.string (txt FT)])/\w'=w:=by
 have j:=fun w=>Lc y u w c;go_enter func119,ntmps119;go_wp2;go_ret2;exact⟨rfl,rfl⟩
end Go.Proofs.YtkoiikmhfaebnaaGreatDoor.Vl
namespace Go.Proofs.YtkoiikmhfaebnaaGreatDoor.Vl
open Tryz Go.RowKit
def V6(s x:ByteArray)(i:Nat):Bool:=decide (i+x.size<=s.size)&&((s.extract i (i+x.size)).toList==x.toList)
def Jc(s x:ByteArray):Bool:=(List.range (s.size+1)).any (V6 s x)
theorem Cx{s x:ByteArray}{i:Nat}(h:V6 s x i=true):Jc s x=true:=by
 unfold Jc;rw[List.any_eq_true];refine⟨i,?_,h⟩;unfold V6 at h;simp only[XD,M7]at h;rw[DE];omega
theorem X8j{s x:ByteArray}{j:Nat}(h:∀k,k<j->V6 s x k=false)(c:¬j+x.size<=s.size):Jc s x=false:=by
 unfold Jc;rw[List.any_eq_false];intro k _;by_cases a:k<j
 .rw[h k a];simp
 .unfold V6;rw[Yb (by omega)];simp
theorem X8i(s x:ByteArray)(w:World)(u:s.size<=1048576)(y:x.size<=1048576):Calls prog 186 #[.string s,.string x,.int .i64 0] w fun e w'=>(∃r:Int,e= .returned (.int .i64 r)/\decide (0<=r)=Jc s x)/\w'=w:=by
 go_enter func186,ntmps186;go_wp2;go_loop[7] (fun i=>∃j:Nat,j<=s.size+1/\i= .int .i64 j/\∀k,k<j->V6 s x k=false) (fun i=>s.size+1-(intOf i).toNat)
 case atStart=>exact⟨0,by omega,rfl,fun k l=>absurd l (U8 _)⟩
 case round=>
  obtain⟨j,t,rfl,g⟩:=hrel;have c:=X1 g;clear g;have v:wrap64 ((j:Int)+(x.size:Int))=(j:Int)+x.size:=by unfold wrap64;omega
  by_cases d:j+x.size<=s.size
  .have q:(j:Int)+(x.size:Int)<=(s.size:Int):=by omega
   have a:=X1 (show V6 s x j=((s.extract j (j+x.size)).toList==x.toList) by unfold V6;rw[YJ d,VO]);cases m:((s.extract j (j+x.size)).toList==x.toList)
   .rw[m]at a;go_wp2;go_round
    case rel=>exact⟨j+1,by omega,by go_num,fun k l=>by rcases Nat.lt_succ_iff_lt_or_eq.1 l with h|rfl;exact c.o k h;exact a.o⟩
    case measure=>simp[intOf];omega
   .rw[m]at a;go_wp2;go_ret;exact⟨⟨j,rfl,by rw[Cx a.o];simp⟩,rfl⟩
  .have q:¬(j:Int)+(x.size:Int)<=(s.size:Int):=by omega
   have n:=X1 (X8j c.o d);go_wp2;go_ret;exact⟨⟨-1,rfl,by rw[n.o];rfl⟩,rfl⟩
end Go.Proofs.YtkoiikmhfaebnaaGreatDoor.Vl
