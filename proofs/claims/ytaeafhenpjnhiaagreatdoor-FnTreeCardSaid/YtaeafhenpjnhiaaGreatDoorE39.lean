import Derived.Test.YtaeafhenpjnhiaaGreatDoorE33
set_option maxHeartbeats 8000000
set_option maxRecDepth 100000
namespace Go.Proofs.YtaeafhenpjnhiaaGreatDoor
open Tryz Go.RowKit
variable {K:Nat->Prop} {w0:World} {ob:Nat} {m v0:Value} {wS:World} {v:Value} {t:List UInt8} {w:World}
variable {us:List Value} {bs:List (List UInt8)}
theorem X6n(j:KpW K w0 ob v w)(u:PtR ob m v t w)(k o n c:Int)(s:ByteArray)(g a:Nat)(d:KD w0 K ob m us bs g 0)(hne:us≠[])(C:t.length+(wv [⟨#[105,102,32]⟩,⟨#[32,116,104,101,110,32]⟩,⟨#[32,101,108,115,101,32]⟩] bs us.length 3).length<=90000000):Calls prog 221 #[.agg #[.q k,.q o,.q n,.string s,.q c,.l g us.length a],.p ob] w (Wd ob m v t (wv [⟨#[105,102,32]⟩,⟨#[32,116,104,101,110,32]⟩,⟨#[32,101,108,115,101,32]⟩] bs us.length 3) w):=by
 have y:Calls prog 206 #[.p ob,.l g us.length a,.l (w.heap.size+1) 3 3] ((w.z #[.q k,.q o,.q n,.string s,.q c,.l g us.length a] 141).z #[.t #[105,102,32],.t #[32,116,104,101,110,32],.t #[32,101,108,115,101,32]] 9) (Wd ob m v t (wv [⟨#[105,102,32]⟩,⟨#[32,116,104,101,110,32]⟩,⟨#[32,101,108,115,101,32]⟩] bs us.length 3) w):=by
  have q:=(d.box j (bxo k o n c s (.l g us.length a) 141)).Jo (WS.box j u _) hne a [⟨#[105,102,32]⟩,⟨#[32,116,104,101,110,32]⟩,⟨#[32,101,108,115,101,32]⟩] (by simp) C;rw[Yx]at q;exact q.mono fun _ _ h=>h.post
 have B:=X1 y;clear y j u d;go_enter func221,ntmps221;go_wp2_with fail;go_fit B.o;rintro e E⟨rfl,r⟩;have A:=X1 r;clear r;go_wp2;refine Xw ?_;exact⟨rfl,A.o⟩
theorem X6h(j:KpW K w0 ob v w)(u:PtR ob m v t w)(k o n c:Int)(s:ByteArray)(g a:Nat)(d:KD w0 K ob m us bs g 0)(hne:us≠[])(C:t.length+(wv [⟨#[101,109,105,116,32]⟩,⟨#[59,10]⟩] bs us.length 2).length<=90000000):Calls prog 237 #[.agg #[.q k,.q o,.q n,.string s,.q c,.l g us.length a],.p ob] w (Wd ob m v t (wv [⟨#[101,109,105,116,32]⟩,⟨#[59,10]⟩] bs us.length 2) w):=by
 have y:Calls prog 206 #[.p ob,.l g us.length a,.l (w.heap.size+1) 2 2] ((w.z #[.q k,.q o,.q n,.string s,.q c,.l g us.length a] 150).z #[.t #[101,109,105,116,32],.t #[59,10]] 9) (Wd ob m v t (wv [⟨#[101,109,105,116,32]⟩,⟨#[59,10]⟩] bs us.length 2) w):=by
  have q:=(d.box j (bxo k o n c s (.l g us.length a) 150)).Jo (WS.box j u _) hne a [⟨#[101,109,105,116,32]⟩,⟨#[59,10]⟩] (by simp) C;rw[Yx]at q;exact q.mono fun _ _ h=>h.post
 have B:=X1 y;clear y j u d;go_enter func237,ntmps237;go_wp2_with fail;go_fit B.o;rintro e E⟨rfl,r⟩;have A:=X1 r;clear r;go_wp2;refine Xw ?_;exact⟨rfl,A.o⟩
theorem X6q(j:KpW K w0 ob v w)(u:PtR ob m v t w)(k o n c:Int)(s:ByteArray)(g a:Nat)(d:KD w0 K ob m us bs g 0)(hne:us≠[])(H:s.size<=90000000)(C:t.length+(wv [((⟨#[108,101,116,32]⟩:ByteArray)++s++⟨#[32,61,32]⟩),⟨#[32,105,110,32]⟩] bs us.length 2).length<=90000000):Calls prog 225 #[.agg #[.q k,.q o,.q n,.string s,.q c,.l g us.length a],.p ob] w fun e w'=>Wd ob m v t (wv [((⟨#[108,101,116,32]⟩:ByteArray)++s++⟨#[32,61,32]⟩),⟨#[32,105,110,32]⟩] bs us.length 2) w e w':=by
 have y:Calls prog 206 #[.p ob,.l g us.length a,.l (w.heap.size+1) 2 2] ((w.z #[.q k,.q o,.q n,.string s,.q c,.l g us.length a] 142).z #[.string (((⟨#[108,101,116,32]⟩:ByteArray)++s++⟨#[32,61,32]⟩)),.t #[32,105,110,32]] 9) fun e w'=>Wd ob m v t (wv [((⟨#[108,101,116,32]⟩:ByteArray)++s++⟨#[32,61,32]⟩),⟨#[32,105,110,32]⟩] bs us.length 2) w e w':=by
  have q:=(d.box j (bxo k o n c s (.l g us.length a) 142)).Jo (WS.box j u _) hne a [((⟨#[108,101,116,32]⟩:ByteArray)++s++⟨#[32,61,32]⟩),⟨#[32,105,110,32]⟩] (by simp) C;rw[Yx]at q;exact q.mono fun _ _ h=>h.post
 have B:=X1 y;clear y j u d;have E:¬(4+s.size > 9223372036854775807):=by omega
 have F:¬(4+s.size+3 > 9223372036854775807):=by omega
 go_enter func225,ntmps225;go_wp2_with fail;go_fit B.o;rintro e I⟨rfl,r⟩;have A:=X1 r;clear r;go_wp2;refine Xw ?_;exact⟨rfl,A.o⟩
theorem X7b(j:KpW K w0 ob v w)(u:PtR ob m v t w)(k o n c:Int)(s:ByteArray)(g a:Nat)(d:KD w0 K ob m us bs g 0)(hne:us≠[])(H:s.size<=90000000)(C:t.length+(wv [((⟨#[108,101,116,32]⟩:ByteArray)++s++⟨#[32,61,32]⟩),⟨#[59,10]⟩] bs us.length 2).length<=90000000):Calls prog 236 #[.agg #[.q k,.q o,.q n,.string s,.q c,.l g us.length a],.p ob] w fun e w'=>Wd ob m v t (wv [((⟨#[108,101,116,32]⟩:ByteArray)++s++⟨#[32,61,32]⟩),⟨#[59,10]⟩] bs us.length 2) w e w':=by
 have y:Calls prog 206 #[.p ob,.l g us.length a,.l (w.heap.size+1) 2 2] ((w.z #[.q k,.q o,.q n,.string s,.q c,.l g us.length a] 149).z #[.string (((⟨#[108,101,116,32]⟩:ByteArray)++s++⟨#[32,61,32]⟩)),.t #[59,10]] 9) fun e w'=>Wd ob m v t (wv [((⟨#[108,101,116,32]⟩:ByteArray)++s++⟨#[32,61,32]⟩),⟨#[59,10]⟩] bs us.length 2) w e w':=by
  have q:=(d.box j (bxo k o n c s (.l g us.length a) 149)).Jo (WS.box j u _) hne a [((⟨#[108,101,116,32]⟩:ByteArray)++s++⟨#[32,61,32]⟩),⟨#[59,10]⟩] (by simp) C;rw[Yx]at q;exact q.mono fun _ _ h=>h.post
 have B:=X1 y;clear y j u d;have E:¬(4+s.size > 9223372036854775807):=by omega
 have F:¬(4+s.size+3 > 9223372036854775807):=by omega
 go_enter func236,ntmps236;go_wp2_with fail;go_fit B.o;rintro e I⟨rfl,r⟩;have A:=X1 r;clear r;go_wp2;refine Xw ?_;exact⟨rfl,A.o⟩
theorem X6u(j:KpW K w0 ob v w)(u:PtR ob m v t w)(k o n c:Int)(s:ByteArray)(g a:Nat)(d:KD w0 K ob m us bs g 0)(hne:us≠[])(F:s.size<=90000000)(C:t.length+(wv [(s++⟨#[32,61,32]⟩)] bs us.length 1).length<=90000000):Calls prog 233 #[.agg #[.q k,.q o,.q n,.string s,.q c,.l g us.length a],.p ob] w fun e w'=>Wd ob m v t (wv [(s++⟨#[32,61,32]⟩)] bs us.length 1) w e w':=by
 have y:Calls prog 206 #[.p ob,.l g us.length a,.l (w.heap.size+1) 1 1] ((w.z #[.q k,.q o,.q n,.string s,.q c,.l g us.length a] 146).z #[.string ((s++⟨#[32,61,32]⟩))] 9) fun e w'=>Wd ob m v t (wv [(s++⟨#[32,61,32]⟩)] bs us.length 1) w e w':=by
  have q:=(d.box j (bxo k o n c s (.l g us.length a) 146)).Jo (WS.box j u _) hne a [(s++⟨#[32,61,32]⟩)] (by simp) C;rw[Yx]at q;exact q.mono fun _ _ h=>h.post
 have B:=X1 y;clear y j u d;have E:¬(s.size+3 > 9223372036854775807):=by omega
 go_enter func233,ntmps233;go_wp2_with fail;go_fit B.o;rintro e H⟨rfl,r⟩;have A:=X1 r;clear r;go_wp2;refine Xw ?_;exact⟨rfl,A.o⟩
variable {K:Nat->Prop} {w0:World} {ob:Nat} {m v0:Value} {wS:World} {v:Value} {t:List UInt8} {w:World}
variable {us:List Value} {bs:List (List UInt8)}
theorem X6r(y:KpW K w0 ob v w)(E:PtR ob m v t w)(k o n c:Int)(s:ByteArray)(p:Option Addr)(g a:Nat)(d:KD w0 K ob m us bs g 0)(j:us=[]\/p=some ⟨g,0,none⟩)(Q:t.length+(jn bs us.length).length+2<=90000000):Calls prog 210 #[.agg #[.q k,.q o,.q n,.string s,.q c,.slice p us.length a],.p ob] w fun e w'=>Wd ob m v t (91::(jn bs us.length++[93])) w e w':=by
 have L:=X1 (WS.box y E (.cells #[.q k,.q o,.q n,.string s,.q c,.slice p us.length a] 136));have F:=X1 (d.box y (.cells #[.q k,.q o,.q n,.string s,.q c,.slice p us.length a] 136));have r:=X1 j;clear y E d j;have H:=X1 (L.o.put ⟨#[91]⟩ (by show t.length+1<=_;omega));go_enter func210,ntmps210;go_wp2_with fail;go_fit H.o;rintro e N⟨rfl,S,u⟩;have O:N.cell? ⟨w.heap.size,5,none⟩=some (.slice p us.length a):=(u.kp.cell (.inr (.inl rfl)) 5).trans (by simp);have I:=X1 (F.o.row u p r.o a (by rw[Xj];show t.length+1+_<=_;omega));clear u;go_wp2_with fail;go_fit I.o;rintro e V⟨rfl,U,B⟩;have J:=X1 (B.put ⟨#[93]⟩ (by rw[Xj,Xj];show t.length+1+_+1<=_;omega));clear B;go_wp2_with fail;go_fit J.o;rintro e W⟨rfl,M,C⟩;have A:=X1 C;clear C;go_wp2;refine Xw ?_;exact⟨rfl,M,by have:=A.o.pr;simpa using this,A.o.gr⟩
theorem X7a(y:KpW K w0 ob v w)(E:PtR ob m v t w)(k o n c:Int)(s:ByteArray)(p:Option Addr)(g a:Nat)(d:KD w0 K ob m us bs g 0)(j:us=[]\/p=some ⟨g,0,none⟩)(Q:t.length+(jn bs us.length).length+2<=90000000):Calls prog 212 #[.agg #[.q k,.q o,.q n,.string s,.q c,.slice p us.length a],.p ob] w fun e w'=>Wd ob m v t (123::(jn bs us.length++[125])) w e w':=by
 have L:=X1 (WS.box y E (.cells #[.q k,.q o,.q n,.string s,.q c,.slice p us.length a] 137));have F:=X1 (d.box y (.cells #[.q k,.q o,.q n,.string s,.q c,.slice p us.length a] 137));have r:=X1 j;clear y E d j;have H:=X1 (L.o.put ⟨#[123]⟩ (by show t.length+1<=_;omega));go_enter func212,ntmps212;go_wp2_with fail;go_fit H.o;rintro e N⟨rfl,S,u⟩;have O:N.cell? ⟨w.heap.size,5,none⟩=some (.slice p us.length a):=(u.kp.cell (.inr (.inl rfl)) 5).trans (by simp);have I:=X1 (F.o.row u p r.o a (by rw[Xj];show t.length+1+_<=_;omega));clear u;go_wp2_with fail;go_fit I.o;rintro e V⟨rfl,U,B⟩;have J:=X1 (B.put ⟨#[125]⟩ (by rw[Xj,Xj];show t.length+1+_+1<=_;omega));clear B;go_wp2_with fail;go_fit J.o;rintro e W⟨rfl,M,C⟩;have A:=X1 C;clear C;go_wp2;refine Xw ?_;exact⟨rfl,M,by have:=A.o.pr;simpa using this,A.o.gr⟩
variable {K:Nat->Prop} {w0:World} {ob:Nat} {m v0:Value} {wS:World} {v:Value} {t:List UInt8} {w:World}
theorem Rkd.box{w0:World}{u:Value}{r:Int}(h:Rkd w0 K ob u r)(g:KpW K w0 ob v w)(O:Obj):Rkd (w.alloc O) (fun q=>K q\/q=w.heap.size\/q=w.heap.size) ob u r:=fun k j d=>
 h k j ⟨fun q a=>(d.same q (.inl a)).trans ((bA O:BL w (w.alloc O)).block q (g.lt q a) |>.trans (g.same q a)),fun q a=>d.lt q (.inl a),fun q a=>d.ob q (.inl a),fun q a=>d.own q (.inl a)⟩
def rkB(r least:Int)(b:List UInt8):List UInt8:=if r<least then 40::(b++[41])else b
theorem KD.rk{k:List Value}{n:List (List UInt8)}{g o:Nat}(d:KD w0 K ob m k n g o)(h:WS K w0 ob m v0 wS v t w)(j:Nat)(y:j<k.length){T:TypeId}{x:Value}(B:k[j]= .iface T x)(b:List UInt8)(u:n[j]?.getD []=b)(r a:Int)(s:Rkd w0 K ob (.iface T x) r)(A:t.length+(rkB r a b).length<=90000000): Calls prog 205 #[.p ob,.iface T x,.q a] w (WP K w0 ob m v0 wS (t++rkB r a b)):=d.Pk h j y B b u r a s A
theorem X6e(j:KpW K w0 ob v w)(H:PtR ob m v t w)(k o n c:Int)(s:ByteArray)(g a:Nat)(T:TypeId)(x:Value)(b:List UInt8)(r:Int)(S:t.length+(rkB r 8 b).length+s.size+1<=90000000)(d:KD w0 K ob m ([.iface T x]) ([b]) g 0)(E:Rkd w0 K ob (.iface T x) r):Calls prog 216 #[.agg #[.q k,.q o,.q n,.string s,.q c,.l g 1 a],.p ob] w (Wd ob m v t (rkB r 8 b++46::s.data.toList) w):=by
 have B:=X1 (WS.box j H (.cells #[.q k,.q o,.q n,.string s,.q c,.l g 1 a] 139));have u:=X1 (d.box j (.cells #[.q k,.q o,.q n,.string s,.q c,.l g 1 a] 139));have J:=X1 (E.box j (.cells #[.q k,.q o,.q n,.string s,.q c,.l g 1 a] 139));clear j H d E;have I:=X1 (u.o.rk B.o 0 (by simp) rfl b rfl r 8 J.o (by omega));have N:(w.alloc (.cells #[.q k,.q o,.q n,.string s,.q c,.l g 1 a] 139)).cell? ⟨g,0,none⟩=some (.iface T x):=(B.o.kp.cell (u.o.gk (by simp)) 0).trans (u.o.ce 0 (by simp));go_enter func216,ntmps216;go_wp2_with fail;go_fit I.o;rintro e M⟨rfl,U,A⟩;have O:M.cell? ⟨w.heap.size,3,none⟩=some (.string s):=(A.kp.cell (.inr (.inl rfl)) 3).trans (by simp);have Q:¬(1+s.size > 9223372036854775807):=by omega
 have y:=X1 (A.put (⟨#[46]⟩++s) (by rw[Xj,KA];show _+(1+s.size)<=_;omega));clear A;go_wp2_with fail;go_fit y.o;rintro e V⟨rfl,L,F⟩;have C:=X1 F;clear F;go_wp2;refine Xw ?_;exact⟨rfl,L,by have:=C.o.pr;simpa[wv]using this,C.o.gr⟩
theorem Og(s:ByteArray)(w:World)(hs:s.size<=1000000):CB 232 #[.string s] w (.string ⟨(Y3 s.data.toList).toArray⟩):=by
 obtain⟨L,hi,B,C,E⟩:=YK WQ;go_enter func232,ntmps232;go_wp2
 go_loopw[3,4,5,9] (fun v _ _ i wr=>∃(j:Nat) (t:List UInt8) (g cap:Nat),j<=s.size/\i= .q j/\v= .l g t.length cap/\wr.ownsRow w.heap.size 5 1 (.l g t.length cap) t.length (Y6 t)/\BL w wr/\t.length<=1+3*j/\
   t++((s.data.toList.drop j).flatMap ZL++[34])=Y3 s.data.toList) (fun _ _ _ i _=>s.size-(intOf i).toNat)
 case atStart=>
  exact⟨0,[34],w.heap.size,1,Xb _,rfl,rfl,Y4 w #[.int .u8 34] 1 (X5 _) (by decide) rfl,bA _,by simp,rfl⟩
 case round=>
  obtain⟨j,t,g,cap,hj,rfl,rfl,n,N,a4,he⟩:=hrel;have K:=X1 he;clear he;have a3:=N.size;by_cases a1:j<s.size
  .have O:=X1 (S3 s j a1);have a2:s[j].toNat<256:=UInt8.toNat_lt _;by_cases Q:UI s[j]=true
   .have J:32<=s[j].toNat/\s[j].toNat<=126/\s[j].toNat≠34/\s[j].toNat≠92:=by simpa[UI]using Q
    have I:=X1 (show ZL s[j]=[s[j]] by unfold ZL;rw[Xa Q]);obtain⟨b1,b2,b3,b4⟩:=J;have c1:(32:Int)<=(s[j].toNat:Int):=by omega
    have c2:(s[j].toNat:Int)<=126:=by omega
    have c3:((s[j].toNat:Int)==34)=false:=by simp;omega
    have c4:((s[j].toNat:Int)==92)=false:=by simp;omega
    go_wp2_with(at_builtin;refine Vr _ rfl _ _ 22 rfl w.heap.size 5 L (.int .u8 0) 1 1 underlying22 hi B C E rfl (by decide) _ _ _ rfl (n.alloc _) ⟨wr.heap.size,0,none⟩ 1 1 [.int .u8 s[j].toNat] rfl rfl (IF _ _) (by simp[Value.oneCell']) ?_ ?_ ?_ ?_)
    .unfold maxLen;omega
    .omega
    .first|omega|(simp;omega)
    .intro v' V d a _;obtain⟨F,m,rfl,A,y⟩:=Iy (u:=[s[j]]) (k:=1) rfl (by decide) n N d a;clear d a n;go_wp2;go_roundw
     case rel=>
      refine⟨j+1,t++[s[j]],F,m,by omega,by go_num,by simp,A,y,by simp;omega,?_⟩;rw[←K.o,O.o,JH,I.o];simp
     case measure=>simp[intOf];omega
   .have J:s[j].toNat<32\/(32<=s[j].toNat/\126<s[j].toNat)\/(32<=s[j].toNat/\s[j].toNat<=126/\s[j].toNat=34)\/(32<=s[j].toNat/\s[j].toNat<=126/\s[j].toNat≠34/\s[j].toNat=92):=by
     simp[UI]at Q;omega
    have I:=X1 (show ZL s[j]=[92,Xv (s[j].toNat / 16),Xv (s[j].toNat%16)] by unfold ZL;rw[X6 Q]);clear Q;obtain⟨q,eq⟩:∃q,s[j].toNat / 16=q:=⟨_,rfl⟩;obtain⟨r,er⟩:∃r,s[j].toNat%16=r:=⟨_,rfl⟩;have S:q<16:=by omega
    have U:r<16:=by omega
    have e1:(s[j].toNat:Int) / 16=(q:Int):=by omega
    have e2:(s[j].toNat:Int).tmod 16=(r:Int):=by rw[UY (by omega)];omega
    have e4:IntKind.u8.wrap (q:Int)=(q:Int):=by rw[IntKind.wrap_u8];omega
    have e5:IntKind.u8.wrap (r:Int)=(r:Int):=by rw[IntKind.wrap_u8];omega
    have f1:=Ld q S;have f2:=Ld r U;have W:=X1 ((n.alloc (.cells #[.int .u8 (92:UInt8).toNat,.int .u8 (Xv q).toNat,.int .u8 (Xv r).toNat] 5)).drew);have M:=X1 ((N.alloc N.size (.cells #[.int .u8 (92:UInt8).toNat,.int .u8 (Xv q).toNat,.int .u8 (Xv r).toNat] 5)).drew);have X:=X1 M.o.size;have H:=X1 n;rw[eq,er]at I;clear n;rcases J with J|J|J|J
    .have Z:¬((32:Int)<=(s[j].toNat:Int)):=by omega
     go_wp2_with fail;go_region_held3 (fun _=>True) (trivial) ((refine Vo rfl (.tmp 29) (.tmp 36) 22 rfl w.heap.size 5 L (.int .u8 0) 1 1 underlying22 hi B C E rfl (by decide) (.l g t.length cap) t.length (Y6 t) (by simp[Act.eval]) W.o ⟨wr.heap.size,0,none⟩ 3 3 (Y6 [92,Xv q,Xv r]) (by simp[Act.eval]) rfl (Vb wr 92 (Xv q) (Xv r)) (Vh _) (by unfold maxLen;omega) (by omega) X.o ?_;intro v' V d a _ _));all_goals
      obtain⟨F,m,rfl,A,y⟩:=Va (u:=[92,Xv q,Xv r]) (k:=3) rfl (by decide) H.o M.o d a;clear d a;go_wp2;go_roundw
      case rel=>
       refine⟨j+1,t++[92,Xv q,Xv r],F,m,by omega,by go_num,by simp,A,y,by simp;omega,?_⟩;rw[←K.o,O.o,JH,I.o];simp
      case measure=>simp[intOf];omega
    .have Z:(32:Int)<=(s[j].toNat:Int):=by omega
     have d2:¬((s[j].toNat:Int)<=126):=by omega
     go_wp2_with fail;go_region_held3 (fun _=>True) (trivial) ((refine Vo rfl (.tmp 29) (.tmp 36) 22 rfl w.heap.size 5 L (.int .u8 0) 1 1 underlying22 hi B C E rfl (by decide) (.l g t.length cap) t.length (Y6 t) (by simp[Act.eval]) W.o ⟨wr.heap.size,0,none⟩ 3 3 (Y6 [92,Xv q,Xv r]) (by simp[Act.eval]) rfl (Vb wr 92 (Xv q) (Xv r)) (Vh _) (by unfold maxLen;omega) (by omega) X.o ?_;intro v' V d a _ _));all_goals
      obtain⟨F,m,rfl,A,y⟩:=Va (u:=[92,Xv q,Xv r]) (k:=3) rfl (by decide) H.o M.o d a;clear d a;go_wp2;go_roundw
      case rel=>
       refine⟨j+1,t++[92,Xv q,Xv r],F,m,by omega,by go_num,by simp,A,y,by simp;omega,?_⟩;rw[←K.o,O.o,JH,I.o];simp
      case measure=>simp[intOf];omega
    .have Z:(32:Int)<=(s[j].toNat:Int):=by omega
     have d2:(s[j].toNat:Int)<=126:=by omega
     have d3:((s[j].toNat:Int)==34)=true:=by simp;omega
     obtain rfl:q=2:=by omega
     obtain rfl:r=2:=by omega
     go_wp2_with fail;go_region_held3 (fun _=>True) (trivial) ((refine Vo rfl (.tmp 29) (.tmp 36) 22 rfl w.heap.size 5 L (.int .u8 0) 1 1 underlying22 hi B C E rfl (by decide) (.l g t.length cap) t.length (Y6 t) (by simp[Act.eval]) W.o ⟨wr.heap.size,0,none⟩ 3 3 (Y6 [92,Xv 2,Xv 2]) (by simp[Act.eval]) rfl (Vb wr 92 (Xv 2) (Xv 2)) (Vh _) (by unfold maxLen;omega) (by omega) X.o ?_;intro v' V d a _ _));all_goals
      obtain⟨F,m,rfl,A,y⟩:=Va (u:=[92,Xv 2,Xv 2]) (k:=3) rfl (by decide) H.o M.o d a;clear d a;go_wp2;go_roundw
      case rel=>
       refine⟨j+1,t++[92,Xv 2,Xv 2],F,m,by omega,by go_num,by simp,A,y,by simp;omega,?_⟩;rw[←K.o,O.o,JH,I.o];simp
      case measure=>simp[intOf];omega
    .have Z:(32:Int)<=(s[j].toNat:Int):=by omega
     have d2:(s[j].toNat:Int)<=126:=by omega
     have d3:((s[j].toNat:Int)==34)=false:=by simp;omega
     have d4:((s[j].toNat:Int)==92)=true:=by simp;omega
     obtain rfl:q=5:=by omega
     obtain rfl:r=12:=by omega
     go_wp2_with fail;go_region_held3 (fun _=>True) (trivial) ((refine Vo rfl (.tmp 29) (.tmp 36) 22 rfl w.heap.size 5 L (.int .u8 0) 1 1 underlying22 hi B C E rfl (by decide) (.l g t.length cap) t.length (Y6 t) (by simp[Act.eval]) W.o ⟨wr.heap.size,0,none⟩ 3 3 (Y6 [92,Xv 5,Xv 12]) (by simp[Act.eval]) rfl (Vb wr 92 (Xv 5) (Xv 12)) (Vh _) (by unfold maxLen;omega) (by omega) X.o ?_;intro v' V d a _ _));all_goals
      obtain⟨F,m,rfl,A,y⟩:=Va (u:=[92,Xv 5,Xv 12]) (k:=3) rfl (by decide) H.o M.o d a;clear d a;go_wp2;go_roundw
      case rel=>
       refine⟨j+1,t++[92,Xv 5,Xv 12],F,m,by omega,by go_num,by simp,A,y,by simp;omega,?_⟩;rw[←K.o,O.o,JH,I.o];simp
      case measure=>simp[intOf];omega
  .have HF:=X1 (show t++[34]=Y3 s.data.toList by rw[←K.o,YI (by simp;omega)];rfl);go_wp2_with(at_builtin;refine Vr _ rfl _ _ 22 rfl w.heap.size 5 L (.int .u8 0) 1 1 underlying22 hi B C E rfl (by decide) _ _ _ rfl (n.alloc _) ⟨wr.heap.size,0,none⟩ 1 1 [.int .u8 34] rfl rfl (IF _ _) (by simp[Value.oneCell']) ?_ ?_ ?_ ?_)
   .unfold maxLen;omega
   .omega
   .first|omega|(simp;omega)
   .intro v' V d a _;obtain⟨F,m,rfl,A,y⟩:=Iy (u:=[34]) (k:=1) rfl (by decide) n N d a;clear d a n;have a0:=WH A;rw[Xj,Ds]at a0;go_wp2;go_ret;exact⟨by rw[←HF.o];rfl,y⟩
theorem KT{w a:World}{o:Obj}(h:Below (w.alloc o).heap.size (w.alloc o) a):Below w.heap.size w a:=(bA _).trans (h.mono (by simp))
theorem Iv(l:List Gr):YE 12 l=(Yg 1 16 (l.take (KR l))&&Yg 18 18 (l.drop (KR l))&&QX (l.drop (KR l))):=rfl
theorem Hc(k:Int)(l:List Gr)(h:k=15\/k=20):YE k l=(Yg 19 19 (l.take (l.length-1))&&Yg 1 16 (l.drop (l.length-1))):=by
 rcases h with rfl|rfl<;>rfl
theorem He(k:Int)(l:List Gr)(n:k≠9)(a:k≠12)(j:k≠15)(m:k≠20)(d:k≠23)(g:k≠24):YE k l=Yg 1 16 l:=by
 unfold YE;rw[X6 n,X6 a,X6 (by omega),X6 d,X6 g]
theorem X7i(op n m:Int)(s:ByteArray)(l:List Gr)(g o c:Nat)(w:World)(M:l.length<=1048576)(h1:1<=l.length)(C:l.length<=c)(W:∀x∈l,x.nd.text.size<=1048576)(ht:KK w g o l): CB 31 #[.agg #[.q 12,.q op,.q n,.string s,.q m],.slice (some ⟨g,o,none⟩) l.length c] w (.bool (YE 12 l)):=by
 have N:=X1 (ht.below (bA (.cells #[.q 12,.q op,.q n,.string s,.q m] 64)));have HH:=X1 W;clear W ht;go_enter func31,ntmps31;go_wp2;go_loop[5] (fun t=>∃p:Nat,1<=p/\p<=l.length/\t= .q p/\KR l=p+((l.drop p).takeWhile fun g=>g.nd.kind !=18).length) (fun t=>l.length-(intOf t).toNat)
 case atStart=>exact⟨1,X5 _,h1,rfl,rfl⟩
 case round=>
  obtain⟨p,a0,Z,rfl,V⟩:=hrel;have F:=X1 V;clear V;have j:=X1 (N.o.El Z C);have k:=X1 (N.o.MW (n:=l.length-p) Z C rfl);have A:(l.take p).length<=1048576:=by rw[YO];omega
  have y:(l.drop p).length<=1048576:=by rw[YC];omega
  have I:Hid (∀x∈l.drop p,x.nd.text.size<=1048576):=X1 fun x hx=>HH.o x (Q8 hx);have Q:((l.length-p:Nat):Int)=(l.length:Int)-p:=by omega
  by_cases J:p<l.length
  .obtain⟨c0,c1,c2,c3,c4,c5⟩:=N.o.2 p J;have K:=X1 (KM J);cases X:(l[p].nd.kind !=18)
   .have B:=X1 (show KR l=p by rw[F.o,K.o,V2,X];simp);generalize l[p].nd.kind=kp at *;clear F K;cases v:Yg 1 16 (l.take p)
    .go_wp2_with fail;go_fit(Qt (l.take p) _ 1 16 _ A j.o);rintro e H⟨rfl,a⟩;go_wp2;go_ret;exact⟨Xn (by rw[Iv,B.o,v];rfl),KT a⟩
    .cases U:Yg 18 18 (l.drop p)
     .go_wp2_with fail;go_fit(Qt (l.take p) _ 1 16 _ A j.o);rintro e H⟨rfl,a⟩;go_wp2_with fail;go_fit(Qt (l.drop p) _ 18 18 _ y ((k.o _ (.inl rfl)).below a));rintro e S⟨rfl,d⟩;go_wp2;go_ret;exact⟨Xn (by rw[Iv,B.o,v,U];rfl),(KT a).trans (d.mono (KT a).size)⟩
     .go_wp2_with fail;go_fit(Qt (l.take p) _ 1 16 _ A j.o);rintro e H⟨rfl,a⟩;go_wp2_with fail;go_fit(Qt (l.drop p) _ 18 18 _ y ((k.o _ (.inl rfl)).below a));rintro e S⟨rfl,d⟩;go_wp2_with fail;go_fit(En (l.drop p) _ _ y I.o (((k.o _ (.inl rfl)).below a).below d));rintro e w3⟨rfl,r⟩;go_wp2;go_ret;have E:=(KT a).trans (d.mono (KT a).size);exact⟨Xn (by rw[Iv,B.o,v,U];rfl),E.trans (r.mono E.size)⟩
   .have B:=X1 (show KR l=(p+1)+((l.drop (p+1)).takeWhile fun g=>g.nd.kind !=18).length by rw[F.o,K.o,V2,X];simp;omega);generalize l[p].nd.kind=kp at *;clear F K j k;go_wp2;go_round
    case rel=>exact⟨p+1,by omega,by omega,by go_num,B.o⟩
    case measure=>simp[intOf];omega
  .have B:=X1 (show KR l=p by rw[F.o,YI (by omega)];rfl);clear F k I;obtain rfl:p=l.length:=by omega
   have L:Hid (YE 12 l=Yg 1 16 l):=X1 (by
    rw[Iv,B.o,JY,List.drop_length];rw[show Yg 18 18 []=true from rfl,show QX []=true from rfl];simp)
   have u:Hid (GrV (w.alloc (.cells #[.q 12,.q op,.q n,.string s,.q m] 64)) (.slice (some ⟨g,o,none⟩) l.length c) l):=X1 (by have:=j.o;rwa[JY]at this);clear j B Q A y;by_cases O:c=l.length
   .subst O;cases v:Yg 1 16 l
    .go_wp2_with fail;go_fit(Qt l _ 1 16 _ M u.o);rintro e H⟨rfl,a⟩;go_wp2;go_ret;exact⟨Xn (by rw[L.o,v]),KT a⟩
    .go_wp2_with fail;go_fit(Qt l _ 1 16 _ M u.o);rintro e H⟨rfl,a⟩;go_wp2_with fail;go_fit(Ov _ _ 18 18 _);rintro e S⟨rfl,d⟩;go_wp2_with fail;go_fit(R3 _ _ _);rintro e w3⟨rfl,r⟩;go_wp2;go_ret;have E:=(KT a).trans (d.mono (KT a).size);exact⟨Xn (by rw[L.o,v]),E.trans (r.mono E.size)⟩
   .cases v:Yg 1 16 l
    .go_wp2_with fail;go_fit(Qt l _ 1 16 _ M u.o);rintro e H⟨rfl,a⟩;go_wp2;go_ret;exact⟨Xn (by rw[L.o,v]),KT a⟩
    .go_wp2_with fail;go_fit(Qt l _ 1 16 _ M u.o);rintro e H⟨rfl,a⟩;go_wp2_with fail;go_fit(Ov _ _ 18 18 _);rintro e S⟨rfl,d⟩;go_wp2_with fail;go_fit(R3 _ _ _);rintro e w3⟨rfl,r⟩;go_wp2;go_ret;have E:=(KT a).trans (d.mono (KT a).size);exact⟨Xn (by rw[L.o,v]),E.trans (r.mono E.size)⟩
theorem X7k(k op n m:Int)(s:ByteArray)(l:List Gr)(g o c:Nat)(w:World)(E:k=15\/k=20)(K:l.length<=1048576)(J:1<=l.length)(d:l.length<=c)(F:KK w g o l): CB 31 #[.agg #[.q k,.q op,.q n,.string s,.q m],.slice (some ⟨g,o,none⟩) l.length c] w (.bool (YE k l)):=by
 have v:=X1 (Hc k l E);have y:=X1 (F.below (bA (.cells #[.q k,.q op,.q n,.string s,.q m] 64)));obtain⟨p,H⟩:∃p,l.length=p+1:=⟨l.length-1,by omega⟩;have j:=X1 (y.o.El (c:=c) (p:=p) (by omega) d);have u:=X1 (y.o.MW (c:=c) (n:=1) (p:=p) (by omega) d (by omega));have r:(l.take p).length<=1048576:=by rw[YO];omega
 have B:(l.drop p).length<=1048576:=by rw[YC];omega
 rw[H,Dt]at v;clear F y;rcases E with rfl|rfl;all_goals
  cases C:Yg 19 19 (l.take p)
  .go_enter func31,ntmps31;go_wp2_with fail;go_fit(Qt (l.take p) _ 19 19 _ r j.o);rintro e I⟨rfl,a⟩;go_wp2;go_ret;exact⟨Xn (by rw[v.o,C];rfl),KT a⟩
  .go_enter func31,ntmps31;go_wp2_with fail;go_fit(Qt (l.take p) _ 19 19 _ r j.o);rintro e I⟨rfl,a⟩;go_wp2_with fail;go_fit(Qt (l.drop p) _ 1 16 _ B ((u.o _ (.inl rfl)).below a));rintro e L⟨rfl,A⟩;go_wp2;go_ret;exact⟨Xn (by rw[v.o,C];rfl),(KT a).trans (A.mono (KT a).size)⟩
theorem X7j(op n m:Int)(s:ByteArray)(l:List Gr)(v:Value)(w:World)(j:l.length<=1048576)(r:∀x∈l,x.nd.text.size<=1048576)(u:GrV w v l): CB 31 #[.agg #[.q 9,.q op,.q n,.string s,.q m],v] w (.bool (YE 9 l)):=by
 have d:=X1 (u.below (bA (.cells #[.q 9,.q op,.q n,.string s,.q m] 64)));have y:=X1 r;clear r u;cases k:Yg 17 17 l
 .go_enter func31,ntmps31;go_wp2_with fail;go_fit(Qt l _ 17 17 _ j d.o);rintro e A⟨rfl,a⟩;go_wp2;go_ret;exact⟨Xn (by rw[show YE 9 l=(Yg 17 17 l&&QX l)from rfl,k];rfl),KT a⟩
 .go_enter func31,ntmps31;go_wp2_with fail;go_fit(Qt l _ 17 17 _ j d.o);rintro e A⟨rfl,a⟩;go_wp2_with fail;go_fit(En l _ _ j y.o (d.o.below a));rintro e B⟨rfl,g⟩;go_wp2;go_ret;exact⟨Xn (by rw[show YE 9 l=(Yg 17 17 l&&QX l)from rfl,k];rfl),(KT a).trans (g.mono (KT a).size)⟩
theorem X7l(k op n m:Int)(s:ByteArray)(l:List Gr)(v:Value)(w:World)(A:l.length<=1048576)(B:GrV w v l)(F:k≠9)(r:k≠12)(u:k≠15)(y:k≠20): CB 31 #[.agg #[.q k,.q op,.q n,.string s,.q m],v] w (.bool (YE k l)):=by
 have j:=X1 (B.below (bA (.cells #[.q k,.q op,.q n,.string s,.q m] 64)));clear B;by_cases d:k=23
 .subst d;go_enter func31,ntmps31;go_wp2_with fail;go_fit(Qt l _ 5 5 _ A j.o);rintro e C⟨rfl,a⟩;go_wp2;go_ret;exact⟨rfl,KT a⟩
 .by_cases g:k=24
  .subst g;go_enter func31,ntmps31;go_wp2_with fail;go_fit(Qt l _ 20 23 _ A j.o);rintro e C⟨rfl,a⟩;go_wp2;go_ret;exact⟨rfl,KT a⟩
  .have E:=X1 (He k l F r u y d g);have M:(k==9)=false:=by simp;omega
   have H:(k==12)=false:=by simp;omega
   have I:(k==15)=false:=by simp;omega
   have J:(k==20)=false:=by simp;omega
   have K:(k==23)=false:=by simp;omega
   have L:(k==24)=false:=by simp;omega
   go_enter func31,ntmps31;go_wp2_with fail;go_fit(Qt l _ 1 16 _ A j.o);rintro e C⟨rfl,a⟩;go_wp2;go_ret;exact⟨Xn E.o.symm,KT a⟩
theorem Oq(k op n m:Int)(s:ByteArray)(l:List Gr)(v:Value)(w:World)(d:l.length<=1048576)(C:k=12\/k=15\/k=20->1<=l.length)(B:∀x∈l,x.nd.text.size<=1048576)(r:GrV w v l): CB 31 #[.agg #[.q k,.q op,.q n,.string s,.q m],v] w (.bool (YE k l)):=by
 by_cases u:k=9
 .subst u;exact X7j op n m s l v w d B r
 by_cases E:k=12\/k=15\/k=20
 .have a:=C E;rcases r with⟨p,c,_,rfl⟩|⟨g,o,c,rfl,y,A⟩
  .simp at a
  .by_cases j:k=12
   .subst j;exact X7i op n m s l g o c w d a y B A
   .exact X7k k op n m s l g o c w (by omega) d a y A
 .exact X7l k op n m s l v w d r u (by omega) (by omega) (by omega)
