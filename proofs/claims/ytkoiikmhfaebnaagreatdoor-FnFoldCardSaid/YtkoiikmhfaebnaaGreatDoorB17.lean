import Derived.Test.YtkoiikmhfaebnaaGreatDoorB16
set_option maxHeartbeats 1000000
set_option maxRecDepth 100000
namespace Go.Proofs.YtkoiikmhfaebnaaGreatDoor
open Tryz Go.RowKit
namespace Sc
theorem Y3f{p:UInt8->Bool}{b:UInt8}{r:List UInt8}(h:p b=true):((b::r).takeWhile p).length=(r.takeWhile p).length+1:=by simp[h]
theorem Y3e{p:UInt8->Bool}{b:UInt8}{r:List UInt8}(h:p b=false):((b::r).takeWhile p).length=0:=by simp[h]
theorem MD(l:List UInt8)(b:UInt8):QQ (l++[b])=QQ l*10+(b.toNat-48):=by simp[QQ]
theorem Y3k(s:ByteArray)(k j:Nat)(a:k<=j)(h:j<s.size):(s.data.toList.drop k).take (j+1-k)=(s.data.toList.drop k).take (j-k)++[s[j]]:=by
 rw[show j+1-k=(j-k)+1 from by omega,Kt (by simp;omega)]
 congr 2;simp[show k+(j-k)=j from by omega]
 rfl
end Sc
theorem Mp(b:UInt8)(w:World):Calls prog 237 #[.int .u8 b.toNat] w fun e w'=>e= .returned (.int .i64 (Sc.Qe b))/\w'=w:=by
 by_cases a:48<=(b.toNat:Int);all_goals by_cases c:(b.toNat:Int)<=57
 all_goals by_cases d:97<=(b.toNat:Int)
 all_goals by_cases g:(b.toNat:Int)<=102
 all_goals first|(exfalso;omega)|skip
 all_goals
  go_enter func237,ntmps237;go_wp2;go_ret;exact⟨Jy (by unfold Sc.Qe;first|rw[X3 (by omega)]|rw[X2 (by omega),X3 (by omega)]|rw[X2 (by omega),X2 (by omega)]),rfl⟩
theorem Cd(s:ByteArray)(k:Nat)(a:Int)(w:World)(D:s.size<=1048576)(C:k<=s.size)(z:a=(k:Int)): Calls prog 137 #[.string s,.int .i64 a] w fun e w'=>e= .returned (.int .i64 ((k+Sc.Xz false (s.data.toList.drop k):Nat):Int))/\w'=w:=by
 subst z;go_enter func137,ntmps137;go_wp2;go_loop[1] (fun t=>∃j:Nat,j<=s.size/\t= .int .i64 j/\j+Sc.Xz false (s.data.toList.drop j)=k+Sc.Xz false (s.data.toList.drop k)) (fun t=>s.size-(intOf t).toNat)
 case atStart=>exact⟨k,C,rfl,rfl⟩
 case round=>
  obtain⟨j,A,rfl,y⟩:=hrel;have l:=X1 y;clear y;by_cases v:j<s.size
  .have q:=X1 (Sc.drop_cons s j v);cases d:((s[j].toNat:Int)==35)
   .cases g:((s[j].toNat:Int)==32)
    .cases c:((s[j].toNat:Int)==10)
     .go_wp2;go_ret;refine⟨Jy ?_,rfl⟩;have e:=l.o;rw[q.o]at e;simp at d g c;simp only[Sc.Xz]at e;rw[X2 (by omega),X2 (by omega)]at e;omega
     .go_wp2;go_round
      case rel=>
       refine⟨j+1,by omega,by go_num,?_⟩;have e:=l.o;rw[q.o]at e;simp at d g c;simp only[Sc.Xz]at e;rw[X2 (by omega),X3 (by omega)]at e;omega
      case measure=>simp[intOf];omega
    .go_wp2;go_round
     case rel=>
      refine⟨j+1,by omega,by go_num,?_⟩;have e:=l.o;rw[q.o]at e;simp at d g;simp only[Sc.Xz]at e;rw[X2 (by omega),X3 (by omega)]at e;omega
     case measure=>simp[intOf];omega
   .go_wp2;go_loop[1] (fun t=>∃i:Nat,j<=i/\i<=s.size/\t= .int .i64 i/\i+Sc.Xz true (s.data.toList.drop i)=k+Sc.Xz false (s.data.toList.drop k)) (fun t=>s.size-(intOf t).toNat)
    case atStart=>
     refine⟨j,X4 _,A,rfl,?_⟩;have e:=l.o;rw[q.o]at e⊢;simp at d;simp only[Sc.Xz]at e⊢;rw[X3 (by omega)]at e;rw[X2 (by omega)];omega
    case round=>
     obtain⟨i,B,hi,rfl,n⟩:=hrel;have r:=X1 n;clear n;by_cases u:i<s.size
     .have m:=X1 (Sc.drop_cons s i u);cases c:((s[i].toNat:Int)==10)
      .go_wp2;go_round
       case rel=>
        refine⟨i+1,by omega,by omega,by go_num,?_⟩;have e:=r.o;rw[m.o]at e;simp at c;simp only[Sc.Xz]at e;rw[X2 (by omega)]at e;omega
       case measure=>simp[intOf];omega
      .have hne:i≠j:=by rintro rfl;simp at d c;omega
       go_wp2;go_round
       case rel=>
        refine⟨i,by omega,rfl,?_⟩;have e:=r.o;rw[m.o]at e⊢;simp at c;simp only[Sc.Xz]at e⊢;rw[X3 (by omega)]at e;rw[X2 (by omega),X3 (by omega)];omega
       case measure=>simp[intOf];omega
     .go_wp2;go_round
      case rel=>
       refine⟨i,by omega,rfl,?_⟩;have e:=r.o;rw[Yu (i:=i) (by simp;omega)]at e⊢;simp only[Sc.Xz]at e⊢;omega
      case measure=>simp[intOf];omega
  .go_wp2;go_ret;refine⟨Jy ?_,rfl⟩;have e:=l.o;rw[Yu (i:=j) (by simp;omega)]at e;simp only[Sc.Xz]at e;omega
theorem Xca(w:World):Calls prog 205 #[] w fun e w'=>e= .returned (.slice (some ⟨w.heap.size,0,none⟩) 23 23)/\Below w.heap.size w w'/\w.heap.size<w'.heap.size/\VQ w' w.heap.size Sc.marks:=by
 go_enter func205,ntmps205;go_wp2;go_ret;refine⟨rfl,bA _,by simp,?_⟩;exact Ry w 9 Sc.marks
namespace Sc
theorem X3v{b:UInt8}(h:dig b=true):nm b=true:=by simp[nm,h]
theorem Sl(d r:List UInt8)(a:d.all dig=true):(d++r).takeWhile nm=d++r.takeWhile nm:=by
 induction d with
 | nil=>rfl
 | cons x d c=>
  simp only[List.all_cons,XD]at a;simp[X3v a.1,c a.2]
theorem Ev(d r:List UInt8)(a:d.all dig=true)(c:r.takeWhile nm=[])(g:QQ d<=9223372036854775807)(j:¬((d++r).head?=some 48/\1<d.length)): Jj (d++r)=⟨0,3,[],QQ d,d.length⟩:=by
 unfold Jj;rw[Sl d r a,c,VS,X3 ⟨a,g,j⟩]
theorem Xea(d r:List UInt8)(j:d.all dig=true)(k:∃b a,r=b::a/\nm b=true/\dig b=false):Jj (d++r)=bad 3:=by
 obtain⟨b,a,rfl,c,g⟩:=k;unfold Jj;rw[Sl d _ j,X2];simp[c,g]
theorem Eu(d r:List UInt8)(c:d.all dig=true)(g:r.takeWhile nm=[])(h:9223372036854775807<QQ d\/((d++r).head?=some 48/\1<d.length)):Jj (d++r)=bad 3:=by
 unfold Jj;rw[Sl d r c,g,VS,X2];rintro⟨_,j,a⟩;rcases h with h|h
 .omega
 .exact a h
theorem Y2k(s:ByteArray)(k j:Nat)(a:k<=j):s.data.toList.drop k=(s.data.toList.drop k).take (j-k)++s.data.toList.drop j:=by
 conv=>lhs;rw[←Vh (j-k) (s.data.toList.drop k)]
 rw[GM,show k+(j-k)=j from by omega]
theorem take_len(s:ByteArray)(k j:Nat)(a:k<=j)(c:j<=s.size):((s.data.toList.drop k).take (j-k)).length=j-k:=by
 simp;omega
theorem X7g(s:ByteArray)(k:Nat)(a:k<s.size):(s.data.toList.drop k).head?=some s[k]:=by rw[drop_cons s k a];rfl
theorem Ei(s:ByteArray)(k j:Nat)(A:k<s.size)(m:k<=j)(z:j<=s.size)(g:((s.data.toList.drop k).take (j-k)).all dig=true)(v:∀h:j<s.size,dig s[j]=false): ((9223372036854775807<QQ ((s.data.toList.drop k).take (j-k))\/(s[k].toNat=48/\k+1<j)\/(∃h:j<s.size,nm s[j]=true))->Jj (s.data.toList.drop k)=bad 3)/\((QQ ((s.data.toList.drop k).take (j-k))<=9223372036854775807/\¬(s[k].toNat=48/\k+1<j)/\(∀h:j<s.size,nm s[j]=false))->Jj (s.data.toList.drop k)=⟨0,3,[],QQ ((s.data.toList.drop k).take (j-k)),j-k⟩):=by
 have y:=X7g s k A;have u:=take_len s k j m z;have a:(s.data.toList.drop k).head?=some 48↔s[k].toNat=48:=by
  rw[y,ZP,←UInt8.toNat_inj];rfl
 have t:=Y2k s k j m;generalize B:(s.data.toList.drop k).take (j-k)=d at *;rw[t]at a⊢;by_cases c:j<s.size
 .have l:=drop_cons s j c;cases r:nm s[j]
  .have n:(s.data.toList.drop j).takeWhile nm=[]:=by rw[l];simp[r]
   refine⟨fun h=>Eu d _ g n ?_,fun h=>?_⟩
   .rcases h with h|h|⟨_,h⟩
    .exact .inl h
    .exact .inr ⟨a.2 h.1,by omega⟩
    .rw[r]at h;cases h
   .rw[Ev d _ g n h.1 (fun q=>h.2.1 ⟨a.1 q.1,by omega⟩),u]
  .refine⟨fun _=>Xea d _ g ⟨_,_,l,r,v c⟩,fun h=>?_⟩;have:=h.2.2 c;rw[r]at this;cases this
 .have n:(s.data.toList.drop j).takeWhile nm=[]:=by rw[Yu (by simp;omega)];rfl
  refine⟨fun h=>Eu d _ g n ?_,fun h=>?_⟩
  .rcases h with h|h|⟨h,_⟩
   .exact .inl h
   .exact .inr ⟨a.2 h.1,by omega⟩
   .exact absurd h c
  .rw[Ev d _ g n h.1 (fun q=>h.2.1 ⟨a.1 q.1,by omega⟩),u]
theorem Xcz(l:List UInt8)(c:UInt8)(h:9223372036854775807<QQ l):9223372036854775807<QQ (l++[c]):=by rw[MD];omega
theorem X3u{b:UInt8}(h:dig b=true):48<=b.toNat/\b.toNat<=57:=by simpa[dig]using h
end Sc
def QU(k:Nat)(r:Sc.R):Value:=
 if r.code=0 then .tuple #[.agg #[.int .i64 r.kind,.string ⟨r.text.toArray⟩,.int .i64 r.n,.int .i64 k],.int .i64 ((k:Int)+r.size),.int .i64 0]
 else .tuple #[.agg #[.int .i64 0,.string ⟨#[]⟩,.int .i64 0,.int .i64 0],.int .i64 0,.int .i64 r.code]
theorem V4{k:Nat}{r:Sc.R}{c:Nat}(h:r=Sc.bad c)(a:c≠0):QU k r= .tuple #[.agg #[.int .i64 0,.string ⟨#[]⟩,.int .i64 0,.int .i64 0],.int .i64 0,.int .i64 c]:=by
 subst h;unfold QU Sc.bad;rw[X2 a]
theorem Wi{k:Nat}{r:Sc.R}{kind n size:Nat}{text:List UInt8}(h:r=⟨0,kind,text,n,size⟩):QU k r= .tuple #[.agg #[.int .i64 kind,.string ⟨text.toArray⟩,.int .i64 n,.int .i64 k],.int .i64 ((k:Int)+size),.int .i64 0]:=by
 subst h;unfold QU;rw[X3 rfl]
theorem UW{k j n:Nat}{x:Int}(a:k<=j)(c:x=n): Ending.returned (.tuple #[.agg #[.int .i64 3,.string ⟨#[]⟩,.int .i64 x,.int .i64 k],.int .i64 j,.int .i64 0])= .returned (.tuple #[.agg #[.int .i64 (3:Nat),.string ⟨([]:List UInt8).toArray⟩,.int .i64 n,.int .i64 k],.int .i64 ((k:Int)+(j-k:Nat)),.int .i64 0]):=by
 rw[c,show(k:Int)+(j-k:Nat)=j from by omega];rfl
theorem Ej{x:Int}{n:Nat}{c:UInt8}(d:x=n)(h:x<=922337203685477580)(a:48<=c.toNat/\c.toNat<=57): IntKind.u64.wrap (IntKind.u64.wrap (x*10)+((c.toNat:Int)-48)%256)=x*10+(c.toNat-48):=by
 rw[IntKind.wrap_u64,IntKind.wrap_u64];omega
theorem Xdf(s:ByteArray)(k:Nat)(a:Int)(w:World)(W:s.size<=1048576)(M:k<s.size)(Q:a=(k:Int)): Calls prog 199 #[.string s,.int .i64 a] w fun e w'=>e= .returned (QU k (Sc.Jj (s.data.toList.drop k)))/\Below w.heap.size w w':=by
 subst Q;go_enter func199,ntmps199;go_wp2
 go_loop[7,8,9] (fun H V bg=>∃(j:Nat) (x:Int) (b:Bool),k<=j/\j<=s.size/\H= .int .i64 j/\V= .int .u64 x/\bg= .bool b/\
   (((s.data.toList.drop k).take (j-k)).all Sc.dig=true)/\(b=false->x=Sc.QQ ((s.data.toList.drop k).take (j-k))/\x<=9223372036854775807)/\(b=true->9223372036854775807<Sc.QQ ((s.data.toList.drop k).take (j-k))))
  (fun H _ _=>s.size-(intOf H).toNat)
 case atStart=>exact⟨k,0,false,X4 _,by omega,rfl,rfl,rfl,by simp,by simp[Sc.QQ],by simp⟩
 case round=>
  obtain⟨j,x,b,g,L,rfl,rfl,rfl,z,K,N⟩:=hrel;have B:=X1 z;have u:=X1 K;have y:=X1 N;clear z K N;by_cases l:j<s.size
  .have d:=X1 (Sc.Y3k s k j g l);cases C:Sc.dig s[j]
   .have n:=X1 (Sc.Ei s k j M g L B.o (fun _=>C));cases b
    .have c:=X1 (u.o rfl);clear u y;have I:0<=x:=by have:=c.o.1;omega
     have J:x<=9223372036854775807:=c.o.2;cases t:((s[k].toNat:Int)==48)
     .cases D:Sc.nm s[j]
      .have A:=X1 (n.o.2 ⟨by have:=c.o.1;omega,fun q=>by simp at t;omega,fun _=>D⟩);go_wp2_with(first|(go_at_call 198;refine(KF _ _).mono ?_;rintro e w'⟨rfl,rfl⟩)|(go_at_call 201;refine(QP _ _).mono ?_;rintro e w'⟨rfl,rfl⟩));exact X7 (v:= .tuple #[.agg #[.int .i64 3,.string ⟨#[]⟩,.int .i64 x,.int .i64 k],.int .i64 j,.int .i64 0]) (by simp[results,results199,go_sem]) rfl ⟨by rw[Wi A.o];exact UW g c.o.1,bA _⟩
      .have m:=X1 (n.o.1 (.inr (.inr ⟨l,D⟩)));go_wp2_with(first|(go_at_call 198;refine(KF _ _).mono ?_;rintro e w'⟨rfl,rfl⟩)|(go_at_call 201;refine(QP _ _).mono ?_;rintro e w'⟨rfl,rfl⟩));exact X7 (v:= .tuple #[.agg #[.int .i64 0,.string ⟨#[]⟩,.int .i64 0,.int .i64 0],.int .i64 0,.int .i64 3]) (by simp[results,results199,go_sem]) rfl ⟨by rw[V4 m.o (by decide)];rfl,bA _⟩
     .by_cases E:k+1<j
      .have m:=X1 (n.o.1 (.inr (.inl ⟨by simp at t;omega,E⟩)));go_wp2_with(first|(go_at_call 198;refine(KF _ _).mono ?_;rintro e w'⟨rfl,rfl⟩)|(go_at_call 201;refine(QP _ _).mono ?_;rintro e w'⟨rfl,rfl⟩));exact X7 (v:= .tuple #[.agg #[.int .i64 0,.string ⟨#[]⟩,.int .i64 0,.int .i64 0],.int .i64 0,.int .i64 3]) (by simp[results,results199,go_sem]) rfl ⟨by rw[V4 m.o (by decide)];rfl,bA _⟩
      .cases D:Sc.nm s[j]
       .have A:=X1 (n.o.2 ⟨by have:=c.o.1;omega,fun q=>E q.2,fun _=>D⟩);go_wp2_with(first|(go_at_call 198;refine(KF _ _).mono ?_;rintro e w'⟨rfl,rfl⟩)|(go_at_call 201;refine(QP _ _).mono ?_;rintro e w'⟨rfl,rfl⟩));exact X7 (v:= .tuple #[.agg #[.int .i64 3,.string ⟨#[]⟩,.int .i64 x,.int .i64 k],.int .i64 j,.int .i64 0]) (by simp[results,results199,go_sem]) rfl ⟨by rw[Wi A.o];exact UW g c.o.1,bA _⟩
       .have m:=X1 (n.o.1 (.inr (.inr ⟨l,D⟩)));go_wp2_with(first|(go_at_call 198;refine(KF _ _).mono ?_;rintro e w'⟨rfl,rfl⟩)|(go_at_call 201;refine(QP _ _).mono ?_;rintro e w'⟨rfl,rfl⟩));exact X7 (v:= .tuple #[.agg #[.int .i64 0,.string ⟨#[]⟩,.int .i64 0,.int .i64 0],.int .i64 0,.int .i64 3]) (by simp[results,results199,go_sem]) rfl ⟨by rw[V4 m.o (by decide)];rfl,bA _⟩
    .have r:=X1 (y.o rfl);clear u y;have m:=X1 (n.o.1 (.inl r.o));go_wp2_with(first|(go_at_call 198;refine(KF _ _).mono ?_;rintro e w'⟨rfl,rfl⟩)|(go_at_call 201;refine(QP _ _).mono ?_;rintro e w'⟨rfl,rfl⟩));exact X7 (v:= .tuple #[.agg #[.int .i64 0,.string ⟨#[]⟩,.int .i64 0,.int .i64 0],.int .i64 0,.int .i64 3]) (by simp[results,results199,go_sem]) rfl ⟨by rw[V4 m.o (by decide)];rfl,bA _⟩
   .have F:=X1 (Sc.X3u C);cases b
    .have c:=X1 (u.o rfl);clear u y;by_cases P:x<=922337203685477580
     .go_wp2_with(go_at_call 198;refine(KF _ _).mono ?_;rintro e w'⟨rfl,rfl⟩)
      .go_round
       case rel=>
        have S:=Ej c.o.1 P F.o;refine⟨j+1,_,_,by omega,by omega,by go_num,rfl,rfl,?_,?_,?_⟩
        .rw[d.o];simp[B.o,C]
        .intro h;cases h
        .intro _;rw[d.o,Sc.MD];have:=c.o.1;have:=F.o;omega
       case measure=>simp[intOf];omega
      .go_round
       case rel=>
        have S:=Ej c.o.1 P F.o;refine⟨j+1,_,_,by omega,by omega,by go_num,rfl,rfl,?_,?_,?_⟩
        .rw[d.o];simp[B.o,C]
        .intro _;rw[d.o,Sc.MD];have:=c.o.1;have:=F.o;omega
        .intro h;cases h
       case measure=>simp[intOf];omega
     .go_wp2_with(go_at_call 198;refine(KF _ _).mono ?_;rintro e w'⟨rfl,rfl⟩);all_goals
       go_round
       case rel=>
        refine⟨j+1,_,_,by omega,by omega,by go_num,rfl,rfl,?_,?_,?_⟩
        .rw[d.o];simp[B.o,C]
        .intro h;cases h
        .intro _;rw[d.o,Sc.MD];have:=c.o.1;omega
       case measure=>simp[intOf];omega
    .have r:=X1 (y.o rfl);clear u y;go_wp2_with(go_at_call 198;refine(KF _ _).mono ?_;rintro e w'⟨rfl,rfl⟩);all_goals
      go_round
      case rel=>
       refine⟨j+1,_,_,by omega,by omega,by go_num,rfl,rfl,?_,?_,?_⟩
       .rw[d.o];simp[B.o,C]
       .intro h;cases h
       .intro _;rw[d.o];exact Sc.Xcz _ _ r.o
      case measure=>simp[intOf];omega
  .have n:=X1 (Sc.Ei s k j M g L B.o (fun h=>absurd h l));cases b
   .have c:=X1 (u.o rfl);clear u y;have I:0<=x:=by have:=c.o.1;omega
    have J:x<=9223372036854775807:=c.o.2;cases t:((s[k].toNat:Int)==48)
    .have A:=X1 (n.o.2 ⟨by have:=c.o.1;omega,fun q=>by simp at t;omega,fun h=>absurd h l⟩);go_wp2_with(first|(go_at_call 198;refine(KF _ _).mono ?_;rintro e w'⟨rfl,rfl⟩)|(go_at_call 201;refine(QP _ _).mono ?_;rintro e w'⟨rfl,rfl⟩));exact X7 (v:= .tuple #[.agg #[.int .i64 3,.string ⟨#[]⟩,.int .i64 x,.int .i64 k],.int .i64 j,.int .i64 0]) (by simp[results,results199,go_sem]) rfl ⟨by rw[Wi A.o];exact UW g c.o.1,bA _⟩
    .by_cases E:k+1<j
     .have m:=X1 (n.o.1 (.inr (.inl ⟨by simp at t;omega,E⟩)));go_wp2_with(first|(go_at_call 198;refine(KF _ _).mono ?_;rintro e w'⟨rfl,rfl⟩)|(go_at_call 201;refine(QP _ _).mono ?_;rintro e w'⟨rfl,rfl⟩));exact X7 (v:= .tuple #[.agg #[.int .i64 0,.string ⟨#[]⟩,.int .i64 0,.int .i64 0],.int .i64 0,.int .i64 3]) (by simp[results,results199,go_sem]) rfl ⟨by rw[V4 m.o (by decide)];rfl,bA _⟩
     .have A:=X1 (n.o.2 ⟨by have:=c.o.1;omega,fun q=>E q.2,fun h=>absurd h l⟩);go_wp2_with(first|(go_at_call 198;refine(KF _ _).mono ?_;rintro e w'⟨rfl,rfl⟩)|(go_at_call 201;refine(QP _ _).mono ?_;rintro e w'⟨rfl,rfl⟩));exact X7 (v:= .tuple #[.agg #[.int .i64 3,.string ⟨#[]⟩,.int .i64 x,.int .i64 k],.int .i64 j,.int .i64 0]) (by simp[results,results199,go_sem]) rfl ⟨by rw[Wi A.o];exact UW g c.o.1,bA _⟩
   .have r:=X1 (y.o rfl);clear u y;have m:=X1 (n.o.1 (.inl r.o));go_wp2_with(first|(go_at_call 198;refine(KF _ _).mono ?_;rintro e w'⟨rfl,rfl⟩)|(go_at_call 201;refine(QP _ _).mono ?_;rintro e w'⟨rfl,rfl⟩));exact X7 (v:= .tuple #[.agg #[.int .i64 0,.string ⟨#[]⟩,.int .i64 0,.int .i64 0],.int .i64 0,.int .i64 3]) (by simp[results,results199,go_sem]) rfl ⟨by rw[V4 m.o (by decide)];rfl,bA _⟩
theorem X9b(k o m c:Int)(t s:ByteArray)(p:Option Addr)(n a:Nat)(w:World): Calls prog 295 #[.agg #[.int .i64 k,.int .i64 o,.int .i64 m,.string t,.int .i64 c,.slice p n a],.string s] w fun e w'=>e= .returned (.int .i64 (n:Int))/\Below w.heap.size w w':=by
 go_enter func295,ntmps295;go_wp2;go_ret;exact⟨rfl,bA _⟩
theorem CB(k o m c:Int)(t s:ByteArray)(p:Option Addr)(n d:Nat)(w:World): Calls prog 326 #[.agg #[.int .i64 k,.int .i64 o,.int .i64 m,.string t,.int .i64 c,.slice p n d],.string s] w fun e w'=>e= .returned (.int .i64 ((if t=s then 1 else n:Nat):Int))/\Below w.heap.size w w':=by
 by_cases h:t=s
 .subst h;rw[X3 rfl];go_enter func326,ntmps326;go_wp2;go_ret;exact⟨rfl,bA _⟩
 .rw[X2 h];have g:(t.toList==s.toList)=false:=by
   cases e:(t.toList==s.toList)
   .rfl
   .exact absurd (by
     have a:t.toList=s.toList:=by simpa using e
     rw[VP,VP]at a;exact Wx (Ww.1 a)) h
  go_enter func326,ntmps326;go_wp2;go_ret;exact⟨rfl,bA _⟩
theorem X9a(k o m c:Int)(t s:ByteArray)(p:Option Addr)(n d:Nat)(w:World): Calls prog 322 #[.agg #[.int .i64 k,.int .i64 o,.int .i64 m,.string t,.int .i64 c,.slice p n d],.string s] w fun e w'=>e= .returned (.int .i64 ((if t=s then 1 else n:Nat):Int))/\Below w.heap.size w w':=by
 have a:=X1 (fun w=>CB k o m c t s p n d w);generalize(if t=s then 1 else n:Nat)=r at a⊢;go_enter func322,ntmps322;go_wp2_with fail;refine(a.o _).mono ?_;rintro e w1⟨rfl,g⟩;have j:=X1 g;clear g;go_wp2;go_ret;exact⟨rfl,(bA _).trans (j.o.mono (by simp))⟩
theorem X8y(k o m c:Int)(t s:ByteArray)(p:Option Addr)(n d:Nat)(w:World): Calls prog 330 #[.agg #[.int .i64 k,.int .i64 o,.int .i64 m,.string t,.int .i64 c,.slice p n d],.string s] w fun e w'=>e= .returned (.int .i64 ((if t=s then 1 else n:Nat):Int))/\Below w.heap.size w w':=by
 have a:=X1 (fun w=>CB k o m c t s p n d w);generalize(if t=s then 1 else n:Nat)=r at a⊢;go_enter func330,ntmps330;go_wp2_with fail;refine(a.o _).mono ?_;rintro e w1⟨rfl,g⟩;have j:=X1 g;clear g;go_wp2;go_ret;exact⟨rfl,(bA _).trans (j.o.mono (by simp))⟩
theorem Ip.Y4y{k:Int}(g:k≠14)(j:k≠15)(l:k≠16):Ip.ty k∈([192,193,194,195,196,197,198,199,200,204,205,206,207,208,209,210,211,212]:List TypeId):=by
 have a:(k==14)=false:=by simpa using g
 have c:(k==15)=false:=by simpa using j
 have d:(k==16)=false:=by simpa using l
 unfold Ip.ty;rw[a,c,d];simp only[cond_false];repeat(refine Ip.PJ (by simp) ?_)
 simp
abbrev Ip.ag(k o m c:Int)(t:ByteArray)(sl:Value):Value:= .agg #[.int .i64 k,.int .i64 o,.int .i64 m,.string t,.int .i64 c,sl]
