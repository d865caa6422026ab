import Derived.Test.YtaeafhenpjnhiaaGreatDoorE33
set_option maxHeartbeats 4000000
set_option maxRecDepth 100000
namespace Go.Proofs.YtaeafhenpjnhiaaGreatDoor
open Tryz Go.RowKit
theorem IP.Wg{b tc:Nat}{tp:Option Addr}{ts:List Sc.T}{sz:Nat}{s:Pr.Dk}{w:World}(h:IP b tp tc ts sz s.p w)(d:s.p+1<ts.length):∃a,tp=some ⟨a,0,none⟩/\a<b/\w.c a ((s.p+1)*4)=some (.q (X3 ts sz (X2 s)).kind)/\w.c a ((s.p+1)*4+1)=some (.string ⟨(X3 ts sz (X2 s)).text.toArray⟩)/\w.c a ((s.p+1)*4+2)=some (.q (X3 ts sz (X2 s)).n)/\w.c a ((s.p+1)*4+3)=some (.q (X3 ts sz (X2 s)).place):=by
 have e:X3 ts sz (X2 s)=ts[s.p+1]:=by unfold X3;rw[Pr.adv_p,K0 d];rfl
 rw[e];rcases h.tk with e|⟨a,g,j,k⟩
 .subst e;simp at d
 .exact⟨a,g,j,k (s.p+1) d⟩
def If(w:World)(r:Bool)(e:Ending)(w':World):Prop:=e= .returned (.bool r)/\Below w.heap.size w w'
theorem X3j{b tc:Nat}{tp:Option Addr}{ts:List Sc.T}{sz:Nat}{s:Pr.Dk}{w:World}(h:IP b tp tc ts sz s.p w)(g:¬((X3 ts sz s).kind:Int)=1): Calls prog 164 #[.p b] w (If w false):=by
 haveI hne:Nonempty (KB w):=⟨⟨_,X8 _ _⟩⟩;have hm:=h.XP;have v:=h.le;have u:decide (((X3 ts sz s).kind:Int)=1)=false:=by simpa using g
 have r:(((X3 ts sz s).kind:Int)==1)=false:=by simpa using g
 have j:Hid (∀d,BL w d->CB 105 #[.p b] d (.agg #[.q ((X3 ts sz s).kind:Nat),.string ⟨(X3 ts sz s).text.toArray⟩,.q (X3 ts sz s).n,.q (X3 ts sz s).place])):=X1 (fun d k=>by
  have:=U1 (h.below k);unfold XB at this;exact this)
 have m:=U6 ((X3 ts sz s).kind:Nat) (X3 ts sz s).n (X3 ts sz s).place ⟨(X3 ts sz s).text.toArray⟩;clear h;go_enter func164,ntmps164;go_wp2_with fail;refine Z2 (KB.w (w:=w)) (by kernel_rfl) (by kernel_rfl) ⟨⟨_,below_drewN (X8 _ _) _⟩,rfl⟩ ?_;repeat(go_big_quiet_step ((go_at_call 105;exact Kw j.o _)))
 refine wpQuiet_nil ?_;rintro _⟨q,rfl⟩;have a:=q.below;go_wp2;go_ret;refine⟨?_,a⟩;first|rfl|simp[Js]
theorem X3k{b tc:Nat}{tp:Option Addr}{ts:List Sc.T}{sz:Nat}{s:Pr.Dk}{w:World}(h:IP b tp tc ts sz s.p w)(r:((X3 ts sz s).kind:Int)=1)(B:¬s.p+1<ts.length): Calls prog 164 #[.p b] w (If w false):=by
 haveI hne:Nonempty (KB w):=⟨⟨_,X8 _ _⟩⟩;have hm:=h.XP;have u:=h.le;have d:¬(s.p:Int)+1<ts.length:=by omega
 have v:decide ((s.p:Int)+1<ts.length)=false:=by simpa using d
 have y:∀q:KB w,q.w.c b 0=some (.slice tp ts.length tc):=fun q=>(h.below q.below).c0;have A:∀q:KB w,q.w.c b 1=some (.q s.p):=fun q=>(h.below q.below).c1;have j:Hid (∀g,BL w g->CB 105 #[.p b] g (.agg #[.q 1,.string ⟨(X3 ts sz s).text.toArray⟩,.q (X3 ts sz s).n,.q (X3 ts sz s).place])):=X1 (fun g k=>by
  have:=U1 (h.below k);unfold XB at this;rw[r]at this;exact this)
 have m:=U6 1 (X3 ts sz s).n (X3 ts sz s).place ⟨(X3 ts sz s).text.toArray⟩;clear h;go_enter func164,ntmps164;go_wp2_with fail;refine Z2 (KB.w (w:=w)) (by kernel_rfl) (by kernel_rfl) ⟨⟨_,below_drewN (X8 _ _) _⟩,rfl⟩ ?_;repeat(go_big_quiet_step ((go_at_call 105;exact Kw j.o _)))
 refine wpQuiet_nil ?_;rintro _⟨q,rfl⟩;have a:=q.below;go_wp2;go_ret;refine⟨?_,a⟩;first|rfl|simp[Js]
theorem X3l{b tc:Nat}{tp:Option Addr}{ts:List Sc.T}{sz:Nat}{s:Pr.Dk}{w:World}(h:IP b tp tc ts sz s.p w)(C:((X3 ts sz s).kind:Int)=1)(k:s.p+1<ts.length): Calls prog 164 #[.p b] w (If w (Ip.sign (X3 ts sz (X2 s)) [61])):=by
 haveI hne:Nonempty (KB w):=⟨⟨_,X8 _ _⟩⟩;have hm:=h.XP;have E:=h.le;have m:(0:Int)<=(s.p:Int)+1:=by omega
 have F:(s.p:Int)+1<ts.length:=by omega
 obtain⟨g,rfl,H,_⟩:=h.Wg (sz:=sz) k;have I:∀q:KB w,q.w.c b 0=some (.l g ts.length tc):=fun q=>(h.below q.below).c0;have J:∀q:KB w,q.w.c b 1=some (.q s.p):=fun q=>(h.below q.below).c1;have d:∀q:KB w,q.w.c g ((s.p+1)*4)=some (.q (X3 ts sz (X2 s)).kind)/\q.w.c g ((s.p+1)*4+1)=some (.string ⟨(X3 ts sz (X2 s)).text.toArray⟩)/\q.w.c g ((s.p+1)*4+2)=some (.q (X3 ts sz (X2 s)).n)/\q.w.c g ((s.p+1)*4+3)=some (.q (X3 ts sz (X2 s)).place):=fun q=>by
  obtain⟨K,v,_,y⟩:=(h.below q.below).Wg (sz:=sz) k;cases v;exact y
 have L:=fun q=>(d q).1;have M:=fun q=>(d q).2.1;have N:=fun q=>(d q).2.2.1;have O:=fun q=>(d q).2.2.2;have r:Hid (∀a,BL w a->CB 104 #[.agg #[.q (X3 ts sz (X2 s)).kind,.string ⟨(X3 ts sz (X2 s)).text.toArray⟩,.q (X3 ts sz (X2 s)).n,.q (X3 ts sz (X2 s)).place],.t #[61]] a (.bool (Ip.sign (X3 ts sz (X2 s)) [61]))):=X1 (fun a _=>Lg (X3 ts sz (X2 s)) ⟨#[61]⟩ a);clear d;have u:Hid (∀a,BL w a->CB 105 #[.p b] a (.agg #[.q 1,.string ⟨(X3 ts sz s).text.toArray⟩,.q (X3 ts sz s).n,.q (X3 ts sz s).place])):=X1 (fun a A=>by
  have:=U1 (h.below A);unfold XB at this;rw[C]at this;exact this)
 have B:=U6 1 (X3 ts sz s).n (X3 ts sz s).place ⟨(X3 ts sz s).text.toArray⟩;clear h;go_enter func164,ntmps164;go_wp2_with fail;refine Z2 (KB.w (w:=w)) (by kernel_rfl) (by kernel_rfl) ⟨⟨_,below_drewN (X8 _ _) _⟩,rfl⟩ ?_;repeat(go_big_quiet_step (first|(go_at_call 105;exact Kw u.o _)|(go_at_call 104;exact Kw r.o _)))
 refine wpQuiet_nil ?_;rintro _⟨q,rfl⟩;have j:=q.below;go_wp2;go_ret;refine⟨?_,j⟩;first|rfl|simp[Js]
theorem X3m{b tc:Nat}{tp:Option Addr}{ts:List Sc.T}{sz:Nat}{s:Pr.Dk}{w:World}(h:IP b tp tc ts sz s.p w): Calls prog 164 #[.p b] w (If w (Yl ts sz s)):=by
 by_cases j:(X3 ts sz s).kind=1
 .by_cases a:s.p+1<ts.length
  .have e:Yl ts sz s=Ip.sign (X3 ts sz (X2 s)) [61]:=by
    have m:X3 ts sz (X2 s)=ts[s.p+1]:=by unfold X3;rw[Pr.adv_p,K0 a];rfl
    have k:=h.wd (s.p+1) a;rw[←m]at k;unfold Yl Ip.sign;by_cases d:(X3 ts sz (X2 s)).kind=2
    .have:=k d;simp[j,a,d,this]
    .have g:((X3 ts sz (X2 s)).kind==2)=false:=by simpa using d
     rw[g];simp[j,a]
   rw[e];exact X3l h (by omega) a
  .have e:Yl ts sz s=false:=by unfold Yl;simp[a]
   rw[e];exact X3k h (by omega) a
 .have e:Yl ts sz s=false:=by unfold Yl;simp[j]
  rw[e];exact X3j h (by omega)
theorem Om(s:ByteArray)(b:Nat)(w:World)(A:s.size<=1048576)(hm:w.ownsMap (H:=Unit) prog 9 unitElem b 17 Sc.Q6): CB 61 #[.string s,.map (some b)] w (.bool (K6 s)):=by
 have a:=NN s;have v:=X1 hm;clear hm;by_cases m:s.size=0
 .have y:(s.toList==[])=true:=by rw[a];simpa using m
  have d:=X1 (Tr.Xac s m);clear a;go_enter func61,ntmps61;go_wp2;go_ret;exact⟨Xn d.o.symm,X8 _ _⟩
 .have y:(s.toList==[])=false:=by rw[a];simpa using m
  have k:0<s.size:=by omega
  have d:=X1 (Tr.Xad s k);clear a;by_cases n:30<(s.size:Int)
  .go_enter func61,ntmps61;go_wp2;go_ret;exact⟨Xn (by rw[d.o];simp[n]),X8 _ _⟩
  .cases g:Sc.dig s[0]
   .have u:Hid (keyOf prog 9 (.string s)=some (.string s.data.toList)):=X1 (MG underlying9 (by unfold maxLen;omega));have j:=Sc.X2e (H:=Unit) s.data.toList;cases r:decide (s.data.toList∈Sc.words);all_goals
     rw[r]at j;go_enter func61,ntmps61;go_wp2_with(first|(go_at_call 96;go_fit(VR _ _);rintro e w'⟨rfl,rfl⟩)|(at_lookup;refine wpList_lookup_own_unit _ rfl _ _ 39 rfl 9 84 Ox underlying39 (Y3w _) b 17 Sc.Q6 rfl v.o _ _ rfl u.o ?_)|(go_at_call 97;go_fit(OK _ _ A);rintro e w'⟨rfl,rfl⟩));go_ret;refine⟨Xn ?_,bA _⟩;rw[d.o,g,r];first
     | (simp;done)
     | (rw[YH];simp;omega)
   .go_enter func61,ntmps61;go_wp2_with(go_at_call 96;go_fit(VR _ _);rintro e w'⟨rfl,rfl⟩);go_ret;exact⟨Xn (by rw[d.o,g];simp),X8 _ _⟩
theorem N9(b:UInt8):QD b=(Sc.nm b||!decide (Lib.indexByte [45,46,47] b<0)):=by
 have h:∀n,n<256->QD (UInt8.ofNat n)=(Sc.nm (UInt8.ofNat n)||!decide (Lib.indexByte [45,46,47] (UInt8.ofNat n)<0)):=by decide +kernel
 have:=h b.toNat b.toNat_lt;simpa using this
theorem Xdw(b:UInt8)(w:World):CS 95 #[.t #[45,46,47],.int .u8 b.toNat] w (.q (Lib.indexByte [45,46,47] b)):=by
 have h:=strings_IndexByte ⟨#[45,46,47]⟩ b.toNat w;rw[show((b.toNat:Int)).toNat.toUInt8=b from by simp]at h
 exact h
theorem X5v(s:ByteArray)(w:World)(H:s.size<=1048576): CS 60 #[.string s] w (.bool (U0 s)):=by
 have r:=X1 (show U0 s=(Xs s.size 1 30&&Kt QD s.data.toList)from rfl);go_enter func60,ntmps60;go_wp2;go_loop[6] (fun t=>∃j:Nat,j<=s.size/\t= .q j/\Kt QD s.data.toList=Kt QD (s.data.toList.drop j)) (fun t=>s.size-(intOf t).toNat)
 case atStart=>exact⟨0,Xb _,rfl,by simp⟩
 case round=>
  obtain⟨j,F,rfl,u⟩:=hrel;have m:=X1 u;clear u;by_cases g:j<s.size
  .have A:=X1 (Sc.drop_cons s j g);have d:=X1 (show Kt QD s.data.toList=(QD s[j]&&Kt QD (s.data.toList.drop (j+1))) by rw[m.o,A.o,VC]);have a:=X1 (N9 s[j]);have n:=X1 (Xdw s[j]);cases k:Sc.nm s[j]
   .generalize Lib.indexByte [45,46,47] s[j]=v at *;by_cases B:v<0
    .go_wp2_with(first|(go_at_call 94;go_fit(UR _ _);rintro e w'⟨rfl,rfl⟩)|(go_at_call 95;go_fit(n.o _);rintro e w'⟨rfl,rfl⟩));go_ret;exact⟨Xn (by rw[r.o,d.o,a.o,k];simp[B]),rfl⟩
    .go_wp2_with(first|(go_at_call 94;go_fit(UR _ _);rintro e w'⟨rfl,rfl⟩)|(go_at_call 95;go_fit(n.o _);rintro e w'⟨rfl,rfl⟩));go_round
     case rel=>exact⟨j+1,by omega,by go_num,by rw[d.o,a.o,k,JP (by omega:¬v<0)];rfl⟩
     case measure=>simp[intOf];omega
   .go_wp2_with(first|(go_at_call 94;go_fit(UR _ _);rintro e w'⟨rfl,rfl⟩));go_round
    case rel=>exact⟨j+1,by omega,by go_num,by rw[d.o,a.o,k];rfl⟩
    case measure=>simp[intOf];omega
  .have y:=X1 (show U0 s=Xs s.size 1 30 by
    rw[r.o,m.o,YI (i:=j) (by simp;omega)];simp[Kt])
   by_cases C:1<=(s.size:Int);all_goals by_cases E:(s.size:Int)<=30
   all_goals
    go_wp2;go_ret;exact⟨Xn (by rw[y.o];simp[Xs];try omega),rfl⟩
def Ip.Rx(b:Nat)(tp:Option Addr)(tc:Nat)(ts:List Sc.T)(sz:Nat)(s:Pr.Dk)(w:World)(e:Ending)(w':World):Prop:=
 (∃(r:Pr.Dk × Nat) (v:Value) (l:List Nd),e= .returned v/\K2 ts sz s=true/\Pr.Cv ts sz .e (Xd ts sz (Xm ts sz s) [61]) r/\s.p<=r.1.p/\r.1.bad=false/\r.1.o=s.o++l/\IP b tp tc ts sz r.1.p w'/\Ip.Mv b w w'/\Ip.Pt w.heap.size w' v (l++[⟨18,0,0,⟨(X3 ts sz s).text.toArray⟩,1⟩]))\/
 (∃q,e= .panicked (Ip.stuck q)/\Pr.Ends ts sz .e (Xd ts sz (Xm ts sz s) [61]) q/\Ip.Mv b w w')
theorem AP{b tc sz m:Nat}{tp:Option Addr}{ts:List Sc.T}{s:Pr.Dk}(a:s.bad=false)(U:m<=s.p)(W:∀q:Pr.Dk,m<=q.p->q.p<=ts.length->q.bad=false->Ip.DE b tp tc ts sz q): ∀w0,IP b tp tc ts sz s.p w0->Calls prog 165 #[.p b] w0 (Ip.Rx b tp tc ts sz s w0):=by
 intro w0 g;have a1:=g.lt;have V:=g.XP;have A:=X1 g;have E:=X1 (Ip.Mv.refl b w0);have K:=X1 (show m<=(s).p from U);clear g;go_enter func165,ntmps165;cases j:((X3 ts sz (s)).kind==1)
 case false=>
  go_wp2_with fail;go_fit(Uo (s:=s) A.o 1 (by simpa using j));rintro e w⟨rfl,hm⟩;have Q:=Pr.Bd.Ur (ts:=ts) (sz:=sz) (s:=s) a (by rw[QA a];exact j);exact⟨rfl,.inr ⟨_,rfl,(Q.X7 _).e,E.o.t hm⟩⟩
 have v:K2 ts sz (s)=true:=by rw[QA a];exact j
 go_wp2_with fail;go_fit(upI E (Nat.le_succ_of_le K.o) (JA (s:=s) A.o 1 (by decide) (by simpa using j)));rintro e w1⟨rfl,hm,B,F,L⟩;have a0:=U7 (X3 ts sz (s)).kind (X3 ts sz (s)).n (X3 ts sz (s)).place ⟨(X3 ts sz (s)).text.toArray⟩;unfold XB;cases k:X4 ts sz (X2 (s)) [61]
 case false=>
  go_wp2_with fail;go_fit(ZX (s:=X2 (s)) B.o a [61] #[61] rfl k);rintro e w⟨rfl,hm⟩;have Q:=Pr.Bd.Zw (ts:=ts) (sz:=sz) (s:=X2 (s)) a k;exact⟨rfl,.inr ⟨_,rfl,by rw[Jw v];exact Q.e,F.o.t hm⟩⟩
 go_wp2_with fail;go_fit(upI F (Nat.le_succ_of_le L.o) (ZY (s:=X2 (s)) B.o [61] #[61] rfl k));rintro e w2⟨rfl,hm,d,r,C⟩;have X:=X1 (show Xd ts sz (Xm ts sz s) [61]=X2 (X2 s) by rw[Jw v,Yw k]);go_wp2_with fail;go_fit(upE (W (X2 (X2 (s))) C.o d.o.le a _ d.o) r C d (r.o.size));rintro e w3 (⟨r1,t1,u1,l1,rfl,y,S,N,hm,I,H,Z,u⟩|⟨q,rfl,hq,hm⟩);rotate_left
 .exact⟨rfl,.inr ⟨_,rfl,by rw[X.o];exact hq,r.o.t hm⟩⟩
 go_wp2_with fail;go_fit(upM (18) (0) (0) ⟨(X3 ts sz s).text.toArray⟩ 1 (Ip.QO u.o) rfl I H (H.o.size));rintro e w4⟨rfl,O,J,M⟩;go_wp2;go_ret;exact .inl ⟨r1,_,l1,rfl,v,by rw[X.o];exact y.o,by have:=(y.o.stp d.o.le).ge;simp at this;omega,S,N.o,J.o,M.o,O.o⟩
def Ip.Ja(b nb pb:Nat)(f:Bool)(w:World):Prop:=w.cell? ⟨nb,0,none⟩=some (.bool f)/\w.frozen? ⟨nb,0,none⟩=false/\w.cell? ⟨pb,0,none⟩=some (.p b)
theorem Ip.Ja.keeps{b nb pb lo:Nat}(g:nb<lo)(k:pb<lo)(j:nb≠b)(n:pb≠b):Ip.Wn b lo (Ip.Ja b nb pb):=fun _ _ _ ⟨r,s,u⟩ d=>⟨(XQ (a:=⟨nb,0,none⟩) (d nb g j)).trans r,(ZC (a:=⟨nb,0,none⟩) (d nb g j)).trans s,(XQ (a:=⟨pb,0,none⟩) (d pb k n)).trans u⟩
theorem Ip.Ja.set{b nb pb:Nat}{f:Bool}{w:World}(h:Ip.Ja b nb pb f w)(hne:pb≠nb)(a:Bool):Ip.Ja b nb pb a (w.setCell ⟨nb,0,none⟩ (.bool a)):=⟨Qk _ _ _ h.1,by rw[UJ];exact h.2.1,(Zt _ _ _ _ (fun e=>hne (Yt Addr.block e).symm)).trans h.2.2⟩
theorem IP.GR{b tc sz p nb:Nat}{tp:Option Addr}{ts:List Sc.T}{w:World}(h:IP b tp tc ts sz p w)(a:b<nb)(j:Nat)(v:Value):IP b tp tc ts sz p (w.setCell ⟨nb,j,none⟩ v):=h.blocks (fun q d=>Y0 _ _ _ _ (show q≠nb by omega))
theorem Ip.Mw.GR(b:Nat)(w:World)(nb j:Nat)(v:Value):Ip.Mw b nb w (w.setCell ⟨nb,j,none⟩ v):= .grown (Ii w nb j v) (fun q e=>by cases e;exact .inr rfl)
section
variable {b tc sz m nb pb lo:Nat} {tp:Option Addr} {ts:List Sc.T}
theorem So(Inv:Bool->World->Prop){i:Nat}{f:Bool}{s:Pr.Dk}{w0 I A:World}{e:Ending}(y:(i==0&&X4 ts sz s [41])=false)(j:s.bad=false)(g:(f||Yl ts sz s)=true)(hm:Ip.Mw b nb w0 I)(h:Ip.Rx b tp tc ts sz s I e A)(N:Ip.Mv b I A->Inv true A): Ip.Item b tp tc ts sz nb Inv (fun i f s t n=>Pr.Cv ts sz (.argsL i f) s (t,n)) (fun i f s q=>Pr.Ends ts sz (.argsL i f) s q) i f s w0 e A:=by
 rcases h with⟨r,v,l,B,H,E,F,C,K,J,d,L⟩|⟨q,B,M,d⟩
 .refine .inl ⟨X9 r.1 18 0 0 (Xe ts sz s) 1,true,v,_,B,C,?_,F,J,hm.t (d.wide nb),L.low hm.size,N d,fun a=>⟨fun u n k=>?_,fun q k=>?_⟩,fun a=>?_⟩
  .rw[UB H];simp[X9,K]
  .exact .VH j y g a E k
  .exact .Ny j y g E a k
  .exact .VI j y g a E
 .exact .inr ⟨q,B,.Nx j y g M,hm.t (d.wide nb)⟩
theorem NB(Inv:Bool->World->Prop){i:Nat}{f:Bool}{s:Pr.Dk}{w0 H B:World}{e:Ending}(A:(i==0&&X4 ts sz s [41])=false)(j:s.bad=false)(F:s.p<=ts.length)(g:(f||Yl ts sz s)=false)(hm:Ip.Mw b nb w0 H)(h:Ip.Out b tp tc ts sz .e s H e B)(M:Ip.Mv b H B->Inv false B): Ip.Item b tp tc ts sz nb Inv (fun i f s t n=>Pr.Cv ts sz (.argsL i f) s (t,n)) (fun i f s q=>Pr.Ends ts sz (.argsL i f) s q) i f s w0 e B:=by
 rcases h with⟨r,v,l,C,y,E,J,I,d,K⟩|⟨q,C,L,d⟩
 .refine .inl ⟨r.1,false,v,l,C,E,J,(y.stp F).ge,I,hm.t (d.wide nb),K.low hm.size,M d,fun a=>⟨fun u n k=>?_,fun q k=>?_⟩,fun a=>?_⟩
  .exact .DL j A g a y k
  .exact .NA j A g y a k
  .exact .DM j A g a y
 .exact .inr ⟨q,C,.Nz j A g L,hm.t (d.wide nb)⟩
theorem NI(M:∀q:Pr.Dk,m<=q.p->q.p<=ts.length->q.bad=false->Ip.DE b tp tc ts sz q)(V:b<nb)(a5:b<pb)(L:pb≠nb)(a0:nb<lo)(a1:pb<lo): Ip.U9 b tp tc ts sz nb lo m (Ip.Ja b nb pb) (fun i f s t n=>Pr.Cv ts sz (.argsL i f) s (t,n)) (fun i f s q=>Pr.Ends ts sz (.argsL i f) s q) (fun d=>X4 ts sz d [41]) 163 (#[]++#[.p nb,.p pb]):=by
 intro i f s hn K U j w0 a4 C a;show Calls prog 163 #[.p nb,.p pb] w0 _;have a3:¬pb=nb:=L;have N:=X1 (Ip.Ja.keeps (b:=b) (nb:=nb) (pb:=pb) (lo:=lo) a0 a1 (by omega) (by omega));have J:Hid (∀(g:Bool) (w w':World),lo<=w.heap.size->Ip.Ja b nb pb g w->Ip.Mv b w w'->Ip.Ja b nb pb g w'):=X1 (fun g w w' hl hv hm=>N.o.use hv (fun q hq a2=>hm.block q (by omega) a2));have X:=X1 C;have Z:=X1 a;cases hf:f
 .-- no name yet
  subst hf;have c0:=a.1;have f0:=a.2.1;have c1:=a.2.2;have Q:=X1 (X3m (s:=s) C);clear C a;go_enter func163,ntmps163;go_wp2_with fail;go_fit Q.o;rintro e W⟨rfl,B⟩;have a6:=B.size;have E:=N.o.use Z.o (w':=W) (fun q hq _=>B.block q (by omega));have x0:=E.1;have x1:=E.2.1;have x2:=E.2.2;have y:=X1 (E.set L (Yl ts sz s));have k:=X1 ((X.o.below B).GR V 0 (.bool (Yl ts sz s)));have u:=X1 (Ip.Mw.t (Ip.Mv.wide (.below B) nb) (Ip.Mw.GR b W nb 0 (.bool (Yl ts sz s))));have A:(W.setCell ⟨nb,0,none⟩ (.bool (Yl ts sz s))).heap.size=W.heap.size:=by simp[World.setCell]
  clear B E Q;cases F:Yl ts sz s
  .have S:(false||Yl ts sz s)=false:=by rw[F];rfl
   rw[F]at y k u A;have O:=X1 (M s K U j _ k.o);go_wp2_with fail;go_fit O.o;intro e w3 I;have H:=X1 (NB (nb:=nb) (Ip.Ja b nb pb) hn j U S u.o I (fun hm=>J.o _ _ _ (by rw[A];omega) y.o hm));rcases I with⟨r,v,l,rfl,_⟩|⟨q,rfl,_⟩
   .go_wp2;go_ret;exact H.o
   .exact⟨rfl,H.o⟩
  .have S:(false||Yl ts sz s)=true:=by rw[F];rfl
   rw[F]at y k u A;have O:=X1 (AP (m:=m) j K M _ k.o);go_wp2_with fail;go_fit O.o;intro e w3 I;have H:=X1 (So (nb:=nb) (Ip.Ja b nb pb) hn j S u.o I (fun hm=>J.o _ _ _ (by rw[A];omega) y.o hm));rcases I with⟨r,v,l,rfl,_⟩|⟨q,rfl,_⟩
   .go_wp2;go_ret;exact H.o
   .exact⟨rfl,H.o⟩
 .subst hf;have c0:=a.1;have f0:=a.2.1;have c1:=a.2.2;have y:=X1 (a.set L true);have k:=X1 (C.GR V 0 (.bool true));have u:=X1 (Ip.Mw.GR b w0 nb 0 (.bool true));have A:(w0.setCell ⟨nb,0,none⟩ (.bool true)).heap.size=w0.heap.size:=by simp[World.setCell]
  have S:(true||Yl ts sz s)=true:=rfl;have O:=X1 (AP (m:=m) j K M _ k.o);clear C a;go_enter func163,ntmps163;go_wp2_with fail;go_fit O.o;intro e w3 I;have H:=X1 (So (nb:=nb) (Ip.Ja b nb pb) hn j S u.o I (fun hm=>J.o _ _ _ (by rw[A];omega) y.o hm));rcases I with⟨r,v,l,rfl,_⟩|⟨q,rfl,_⟩
  .go_wp2;go_ret;exact H.o
  .exact⟨rfl,H.o⟩
end
theorem X0n(a:Array Value)(w:World):Sem.run prog (callFunc 84 a) w= .ok (.enter 84 a) w:=by
 simp only[callFunc,ZB,JE,ZA,func84,show(f84.name == "runtime.NumGoroutine")=false by kernel_rfl,show f84.body.isNone=false by kernel_rfl];rfl
theorem Y3p{ops:Array Oper}{g:List Oper}{o:Oper}{a:Act}{w:World}{Q:Exit->Act->World->Prop}(I:o.guard=none)(s x:Operand)(Z:o.op= .call {callee:= .builtin .append,args:=#[s,x],argTypes:=#[85,85]})(lo lo' n B:Nat)(sv v:Value)(l N:List Nd)(L:Ip.Row lo w sv n l)(A:Ip.Pt lo' w v N)(J:lo<=lo')(X:lo<=w.heap.size)(j:∀q,sv.ownBlock=some q->q<lo'/\B<=q)(V:B<=w.heap.size)(hn:n<=2000000)(hs:a.eval s=sv)(hx:a.eval x= .l w.heap.size 1 1)(h:∀v' w',Ip.Row lo w' v' (n+1) (l++N)->Below B w w'->wpList prog ops Q g (a.put o.dst v') w'):wpList prog ops Q (o::g) a (w.z #[v] 44):=by
 obtain⟨iN,W,H,F,E⟩:=YK Ga;have r:=fun q e=>L.lt (q:=q) e;obtain⟨O,m,S,U⟩:=L;obtain⟨k,A⟩:=A;have d:(w.z #[v] 44).heap.size=w.heap.size+1:=by simp
 have y:∀q,q<w.heap.size->(w.z #[v] 44).heap[q]?=w.heap[q]?:=fun q K=>Below.heap_alloc w _ q K;have C:(w.z #[v] 44).ownsRow lo 44 1 sv n O:=Vn S (fun q e=>(r q e).1) (fun q e=>y q (r q e).2);refine YY _ I s x 85 Z lo 44 iN _ 1 16 underlying85 W H F E rfl (by decide) sv n O hs C ⟨w.heap.size,0,none⟩ 1 1 [v] hx rfl (IG w v _ _ rfl) (by intro u M;simp only[Kr,QU,J7]at M;rw[M];exact A.one) (by unfold maxLen;omega) (by omega) (by rw[d];omega) ?_;intro v' w' r1 r2 _ r4;refine h v' w' (Ip.Row.push (w:=w.z #[v] 44) (sv:=sv) (m:=m) (k:=k) (U.mono (fun _ _ e=>e.go (fun q z=>⟨z.1,by rw[d];omega,z.2.2⟩) (fun q z=>y q z.2.1))) (A.go (fun q z=>⟨Xz J z.1,by rw[d];omega,fun e=>by have:=(j q e).1;omega⟩) (fun q z=>y q z.2)) r1 r2 r4) ?_;refine⟨r2.os,r2.tape,r2.output,?_,fun q K=>(r2.block q (by rw[d];omega) (fun e=>?_)).trans (y q (by omega))⟩
 .have:=r2.size;rw[d]at this;omega
 .have:=(j q e.symm).2;omega
def Ip.I4(b:Nat)(tp:Option Addr)(tc:Nat)(ts:List Sc.T)(sz lo:Nat)(c:Zb)(s:Pr.Dk)(w:World)(e:Ending)(w':World):Prop:=
 (∃(r:Pr.Dk × Nat) (v:Value) (l:List Nd),e= .returned v/\Pr.Cv ts sz c s r/\r.1.bad=false/\r.1.o=s.o++l/\IP b tp tc ts sz r.1.p w'/\Ip.Mv b w w'/\Ip.Pt lo w' v l)\/
 (∃q,e= .panicked (Ip.stuck q)/\Pr.Ends ts sz c s q/\Ip.Mv b w w')
theorem X2x{b tc sz m lo:Nat}{tp:Option Addr}{ts:List Sc.T}{s:Pr.Dk}{F:Pr.Dk × Nat}{l0:List Nd}{t0:TypeId}{u0:Value}(h0:X4 ts sz s [93]=false)(d8:Pr.Cv ts sz .e s F)(f3:F.1.bad=false)(b9:F.1.o=s.o++l0)(d:X4 ts sz F.1 Zr=true)(f5:m<=(X2 F.1).p)(e1:∀q:Pr.Dk,m<=q.p->q.p<=ts.length->q.bad=false->Ip.DE b tp tc ts sz q)(E:b<lo): ∀w0,lo<=w0.heap.size->IP b tp tc ts sz (X2 F.1).p w0->Ip.Pt lo w0 (.iface t0 u0) l0->Calls prog 167 #[.p b,.iface t0 u0] w0 (Ip.I4 b tp tc ts sz lo .list s w0):=by
 intro w0 X b8 d9;have f6:=b8.XP;obtain⟨a,J⟩:∃a:Pr.Dk,a={X2 F.1 with o:=F.1.o.take s.o.length}:=⟨_,rfl⟩;have k:a.bad=false:=by rw[J];exact f3
 have c2:=X1 (show IP b tp tc ts sz a.p w0 by rw[J];exact b8);have a7:=X1 (show a.o=F.1.o.take s.o.length by rw[J]);have I:=X1 J;have c8:=X1 (Ip.Mv.refl b w0);have e7:=X1 (show m<=a.p by rw[J];exact f5);have L:=X1 d9;have y:=X1 d8;have d7:=X1 (show F.1.o.take s.o.length=s.o by rw[b9];simp);have d6:=X1 (show F.1.o.drop s.o.length=l0 by rw[b9];simp);clear b8 d9 d8 b9 J;go_enter func167,ntmps167;cases a2:((X3 ts sz (a)).kind==1)
 case false=>
  go_wp2_with fail;go_fit(Uo (s:=a) c2.o 1 (by simpa using a2));rintro e w⟨rfl,hm⟩;have hB:=Pr.Bd.Ur (ts:=ts) (sz:=sz) (s:=a) k (by rw[QA k];exact a2);exact⟨rfl,.inr ⟨_,rfl,.O2 h0 y.o d (by rw[←I.o];exact(hB.X7 _).e),c8.o.t hm⟩⟩
 have a3:K2 ts sz (a)=true:=by rw[QA k];exact a2
 go_wp2_with fail;go_fit(upI c8 (Nat.le_succ_of_le e7.o) (JA (s:=a) c2.o 1 (by decide) (by simpa using a2)));rintro e w1⟨rfl,hm,c3,c9,e8⟩;have M:=X1 (L.o.mv hm.o E (X5 _));clear L;have g0:=U7 (X3 ts sz (a)).kind (X3 ts sz (a)).n (X3 ts sz (a)).place ⟨(X3 ts sz (a)).text.toArray⟩;unfold XB;cases a4:X4 ts sz (X2 (a)) Y1
 case false=>
  go_wp2_with fail;go_fit(ZX (s:=X2 (a)) c3.o k Y1 #[105,110] rfl a4);rintro e w⟨rfl,hm⟩;have hB:=Pr.Bd.Zw (ts:=ts) (sz:=sz) (s:=X2 (a)) k a4;exact⟨rfl,.inr ⟨_,rfl,.O2 h0 y.o d (by rw[←I.o,Jw a3];exact hB.e),c9.o.t hm⟩⟩
 go_wp2_with fail;go_fit(upI c9 (Nat.le_succ_of_le e8.o) (ZY (s:=X2 (a)) c3.o Y1 #[105,110] rfl a4));rintro e w2⟨rfl,hm,a9,b1,c5⟩;have N:=X1 (M.o.mv hm.o E (X5 _));clear M;have HX:=X1 (show Xd ts sz (Xm ts sz a) Y1=X2 (X2 a) by rw[Jw a3,Yw a4]);go_wp2_with fail;go_fit(upE (e1 (X2 (X2 (a))) c5.o a9.o.le k _ a9.o) b1 c5 a9 ((Xz X b1.o.size)));rintro e w3 (⟨r1,t1,u1,l1,rfl,c0,f4,d1,hm,e3,b2,c6,S⟩|⟨q,rfl,hq,hm⟩);rotate_left
 .exact⟨rfl,.inr ⟨_,rfl,.O2 h0 y.o d (by rw[←I.o,HX.o];exact hq),b1.o.t hm⟩⟩
 have O:=X1 (N.o.mv hm.o E (X5 _));clear N;obtain⟨u,W⟩:∃u:Pr.Dk,u={r1.1 with o:=r1.1.o++F.1.o.drop s.o.length}:=⟨_,rfl⟩;have b4:=X1 (show u.p=r1.1.p by rw[W]);have hr:Ip.Row lo (w3.z #[.iface t1 u1,.iface t0 u0] 44) (.l w3.heap.size 2 2) 2 (l1++l0):=(Ip.LO S.o O.o).row (Xz X b2.o.size) (by simp);have b7:=QF w3 (.cells #[.iface t1 u1,.iface t0 u0] 44);have f8:(w3.z #[.iface t1 u1,.iface t0 u0] 44).heap.size=w3.heap.size+1:=by simp
 have c4:=X1 (show IP b tp tc ts sz u.p (w3.z #[.iface t1 u1,.iface t0 u0] 44) by rw[b4.o];exact e3.o.below b7);have d0:=X1 (b2.o.more b7);have d4:=X1 hr;have f7:=b2.o.size;have A:=X1 (show Pr.Cv ts sz .e (Xd ts sz (Xm ts sz {X2 F.1 with o:=F.1.o.take s.o.length}) Y1) r1 by rw[←I.o,HX.o];exact c0.o);clear hr b7 S O c0;have V:u.bad=false:=by rw[W];exact f4
 have d2:=X1 (show u.o=r1.1.o++F.1.o.drop s.o.length by rw[W]);have j:=X1 W;clear W;cases C:X4 ts sz u XR
 case false=>
  have Q:=X1 (XK (s:=u) c4.o V XR #[105,102] rfl C);go_wp2_with fail;go_fit Q.o;rintro e w4⟨rfl,hd,hb⟩;have H:=X1 hd;have B:=X1 (d0.o.more hb);have g:=X1 (d4.o.below hb);have a0:=X1 (show m<=u.p by rw[b4.o];exact c6.o);clear hd hb Q;cases a5:X4 ts sz (u) [93]
  case false=>
   go_wp2_with fail;go_fit(ZX (s:=u) H.o V [93] #[93] rfl a5);rintro e w⟨rfl,hm⟩;have hB:=Pr.Bd.Zw (ts:=ts) (sz:=sz) (s:=u) V a5;exact⟨rfl,.inr ⟨_,rfl,.X1k h0 y.o d A.o (by rw[←j.o];exact C) (by rw[←j.o];exact hB),B.o.t hm⟩⟩
  go_wp2_with fail;go_fit(upI B (Nat.le_succ_of_le a0.o) (ZY (s:=u) H.o [93] #[93] rfl a5));rintro e w5⟨rfl,hm,b0,K,c7⟩;have r:=X1 (g.o.mv hm.o E (X5 _));clear g;go_wp2_with fail;go_fit(upN (16) (0) (0) ⟨(X3 ts sz a).text.toArray⟩ r b0 K);rintro e w6⟨rfl,b5,Z,a1⟩;have HY:=X1 (show Xd ts sz u [93]=X2 u from Yw a5);go_wp2;go_ret;exact .inl ⟨(X9 (Xd ts sz u [93]) 16 0 0 (Xe ts sz a) 2,0),_,_,rfl,by rw[j.o,I.o];exact .VY h0 d (by rw[←j.o];exact C) y.o A.o,by rw[HY.o];exact V,by rw[HY.o];simp[X9,d2.o,d1.o,a7.o,d7.o,d6.o,UB a3],by rw[HY.o];exact Z.o,a1.o,b5.o⟩
 have Q:=X1 (ZH (s:=u) c4.o XR #[105,102] rfl C);go_wp2_with fail;go_fit Q.o;rintro e w4⟨rfl,hd,hm⟩;have H:=X1 hd;have B:=X1 (d0.o.t hm);have g:=X1 (d4.o.mv hm E (X5 _));have a0:=X1 (show m<=(X2 u).p from Nat.le_succ_of_le (by rw[b4.o];exact c6.o));have e0:=hm.size;rw[f8]at e0;have HA:=X1 (show ∀q,(Value.l w3.heap.size 2 2).ownBlock=some q->q<w4.heap.size/\w0.heap.size<=q from fun q e=>by cases e;exact⟨e0,f7⟩);clear hd hm Q;have Q:=X1 (e1 (X2 u) a0.o H.o.le V _ H.o);go_wp2_with fail;go_fit Q.o;rintro e w5 (⟨r2,v2,l2,rfl,hc,b6,ho,hd,hm,hp⟩|⟨q,rfl,hq,hm⟩);rotate_left
 .exact⟨rfl,.inr ⟨_,rfl,.X1l h0 y.o d A.o (by rw[←j.o];exact C) (by rw[←j.o];exact hq),B.o.t hm⟩⟩
 obtain⟨t2,u2,rfl⟩:=hp.iface;have c1:=X1 hc;have f2:=X1 ho;have d3:=X1 (hp.low (Xz X B.o.size));have U:=X1 hp;clear ho hp;have b0:=X1 (show IP b tp tc ts sz (r2.1).p w5 from hd);have K:=X1 (B.o.t hm);have c7:=X1 (show m<=(r2.1).p from Xz a0.o (hc.stp H.o.le).ge);have r:=X1 (g.o.mv hm E (X5 _));clear g;clear hd hm Q;clear hc;have b3:=X1 d3.o;clear d3;go_wp2_with(at_builtin;refine Y3p rfl _ _ rfl lo w4.heap.size 2 w0.heap.size (.l w3.heap.size 2 2) (.iface t2 u2) (l1++l0) l2 r.o U.o (Xz X B.o.size) (Xz X K.o.size) HA.o K.o.size (by omega) rfl rfl ?_);intro v w6 hr hb;obtain⟨sq,sd,rfl⟩:=hr.form;have a8:=X1 hr;have Z:=X1 (b0.o.fresh hb (by omega));have a1:=X1 (K.o.fresh hb (X5 _));have e9:=X1 c7.o;clear hr hb r b3 U HA;cases a6:X4 ts sz (r2.1) [93]
 case false=>
  go_wp2_with fail;go_fit(ZX (s:=r2.1) Z.o b6 [93] #[93] rfl a6);rintro e w⟨rfl,hm⟩;have hB:=Pr.Bd.Zw (ts:=ts) (sz:=sz) (s:=r2.1) b6 a6;exact⟨rfl,.inr ⟨_,rfl,.Ao h0 y.o d A.o (by rw[←j.o];exact C) (by rw[←j.o];exact c1.o) hB,a1.o.t hm⟩⟩
 go_wp2_with fail;go_fit(upI a1 (Nat.le_succ_of_le e9.o) (ZY (s:=r2.1) Z.o [93] #[93] rfl a6));rintro e w7⟨rfl,hm,e5,f0,f9⟩;have d5:=X1 (a8.o.mv hm.o E (X5 _));clear a8;go_wp2_with fail;go_fit(upN (16) (0) (0) ⟨(X3 ts sz a).text.toArray⟩ d5 e5 f0);rintro e w8⟨rfl,b5,e6,f1⟩;have HY:=X1 (show Xd ts sz r2.1 [93]=X2 r2.1 from Yw a6);go_wp2;go_ret;exact .inl ⟨(X9 (Xd ts sz r2.1 [93]) 16 0 0 (Xe ts sz a) 3,0),_,_,rfl,by rw[I.o];exact .WV h0 d (by rw[←j.o];exact C) y.o A.o (by rw[←j.o];exact c1.o),by rw[HY.o];exact b6,by rw[HY.o];simp[X9,f2.o,d2.o,d1.o,a7.o,d7.o,d6.o,UB a3],by rw[HY.o];exact e6.o,f1.o,b5.o⟩
theorem X0r{b tc sz m:Nat}{tp:Option Addr}{ts:List Sc.T}(A:∀q:Pr.Dk,m<=q.p->q.p<=ts.length->q.bad=false->Ip.DE b tp tc ts sz q): Ip.U9 b tp tc ts sz b 0 m (fun _ _=>True) (fun i _ s t n=>∃r1:Pr.Dk × Nat,Pr.Cv ts sz .e s r1/\r1.1.bad=false/\Pr.Cv ts sz (.Zl (i+1)) r1.1 (t,n)/\i+1<=n/\(n=i+1->t=r1.1)/\(n≠i+1->X4 ts sz r1.1 [44]=true)) (fun i _ s q=>Pr.Ends ts sz .e s q\/∃r1:Pr.Dk × Nat,Pr.Cv ts sz .e s r1/\X4 ts sz r1.1 [44]=true/\Pr.Ends ts sz (.Zl (i+1)) r1.1 q) (fun _=>false) 84 (#[.p b]++#[]):=by
 intro i f s _ hm k E w _ F _;go_fit(A s hm k E w F);rintro e w' (⟨r,v,l,rfl,j,d,H,y,g,I⟩|⟨q,rfl,J,g⟩)
 .refine .inl ⟨r.1,f,v,l,rfl,d,H,(j.stp k).ge,y,g.wide b,I,trivial,fun a=>⟨?_,?_⟩,fun a=>⟨r,j,d,.Gh a,X5 _,fun _=>rfl,fun h=>absurd rfl h⟩⟩
  .rintro u n⟨r2,B,_,C,L,_,_⟩;exact⟨r,j,d,.Gi a B C,by omega,fun h=>by omega,fun _=>a⟩
  .rintro q (h|⟨r2,B,K,C⟩)
   .exact .inr ⟨r,j,a,.X8x a h⟩
   .exact .inr ⟨r,j,a,.X8y a B C⟩
 .exact .inr ⟨q,rfl,.inl J,g.wide b⟩
theorem Ip.Row.head{lo:Nat}{w:World}{sv:Value}{l:List Nd}(h:Ip.Row lo w sv 1 l):∃g c t u,sv= .l g 1 c/\w.cell? ⟨g,0,none⟩=some (.iface t u)/\Ip.Pt lo w (.iface t u) l:=by
 obtain⟨y,m,j,A⟩:=h;obtain⟨s,j⟩:=j;obtain⟨x,rfl⟩:∃x,y=[x]:=by
  cases y with
  | nil=>simp at s
  | cons x r=>cases r with
   | nil=>exact⟨x,rfl⟩
   | cons _ _=>simp at s
 obtain⟨a,r,H,k,I⟩:=A;have k:r=[]:=k;subst k;have v:Ip.Pt lo w x l:=⟨m,by rw[I,JW];exact H.go (fun q e=>⟨e.1,e.2.1⟩) (fun _ _=>rfl)⟩;obtain⟨t,u,rfl⟩:=v.iface;rcases j with⟨_,h⟩|⟨g,cap,d,F,_,B,_,_,C,E⟩
 .simp at h
 .refine⟨g,cap,t,u,F,?_,v⟩;simp only[World.cell?,B];have n:(d.toList.take (1*1))[0]?=some (.iface t u):=by rw[E];rfl
  rw[Dq]at n;simpa using n
theorem Ip.I4.GK{b tc sz:Nat}{tp:Option Addr}{ts:List Sc.T}{c:Zb}{s:Pr.Dk}{w0 w w':World}{e:Ending}(h:Ip.I4 b tp tc ts sz w0.heap.size c s w e w')(hm:Ip.Mv b w0 w):Ip.Out b tp tc ts sz c s w0 e w':=by
 rcases h with⟨r,v,l,a,d,g,j,k,m,n⟩|⟨q,a,d,g⟩
 .exact .inl ⟨r,v,l,a,d,g,j,k,hm.t m,n⟩
 .exact .inr ⟨q,a,d,hm.t g⟩
theorem X3f{b tc sz m:Nat}{tp:Option Addr}{ts:List Sc.T}{s:Pr.Dk}(I:s.bad=false)(b9:m<=s.p)(b4:∀q:Pr.Dk,m<=q.p->q.p<=ts.length->q.bad=false->Ip.DE b tp tc ts sz q): Ip.Jr b tp tc ts sz 161 #[.p b] .list s (s):=by
 intro w0 M;have B:=M.lt;have c0:=M.XP;have a2:=X1 M;have a5:=X1 (Ip.Mv.refl b w0);have a4:=X1 (show m<=(s).p from b9);have c7:∀(fn:Fn) (first cap:Array Value) (w:World),(Instr.makeFunc fn first cap).run prog w= .ok (.func fn first cap) w:=fun _ _ _ _=>rfl;clear M;go_enter func161,ntmps161;cases J:X4 ts sz s [93]
 case true=>
  go_wp2_with fail;go_fit(upI a5 (Nat.le_succ_of_le a4.o) (ZH (s:=s) a2.o [93] #[93] rfl J));rintro e w1⟨rfl,hm,S,y,V⟩;go_wp2_with fail;go_fit(upN (8) (0) (0) ⟨#[]⟩ (X1 (Ip.Row.nil (w0.heap.size) _)) S y);rintro e w2⟨rfl,F,n,A⟩;go_wp2;go_ret;exact .inl ⟨(X9 (X2 s) 8 0 0 [] 0,0),_,_,rfl,.list_nil J,I,by simp[X9],n.o,A.o,F.o⟩
 go_wp2_with fail;go_fit(upB a5 (show m<=(s).p from a4.o) (XK (s:=s) a2.o I [93] #[93] rfl J));rintro e w1⟨rfl,hm,S,y,V⟩;have Q:=X1 (PK (lo:=w0.heap.size) (nb:=b) (f:=false) (g:=fun _=>false) (m:=m) (fst:=#[.p b]) (cap:=#[]) (Ip.Gg b _) ((X0r (b:=b) (tp:=tp) (tc:=tc) (ts:=ts) (sz:=sz) (m:=m) b4).up (Xb _)) B (X0n _) rfl V.o I y.o.size S.o trivial);go_wp2_with fail;go_fit Q.o;rintro e w2 (⟨H,n1,sv,l1,rfl,hf,j,d2,ho,a9,hd,hm,hr,c4,c2⟩|⟨q,rfl,hq,hm⟩);rotate_left
 .exact⟨rfl,.inr ⟨_,rfl,hq.elim (fun h=> .X8v J h) (fun⟨r,h1,h2,h3⟩=> .X8w J h1 (Yc h2 (by decide)) h3),y.o.t hm.one⟩⟩
 obtain⟨d4,d3,rfl⟩:=hr.form;have a3:=X1 hf;have Z:=X1 ho;have a6:=X1 (hr.low y.o.size);have b0:=hm.one;clear ho hr hf hm;have n:=X1 (show IP b tp tc ts sz (H).p w2 from hd);have A:=X1 (y.o.t b0);have W:=X1 (show m<=(H).p from Xz V.o a9);clear hd b0 Q;have a:=X1 a6.o;clear a6 a9;obtain⟨C,a7,b7,a8,c8,b2,a1⟩:=a3.o;have E:=X1 a7;have K:=X1 a8;have c6:=X1 n.o.le;clear a3 a7 a8;by_cases b1:n1=1;rotate_left
 .have h1:X4 ts sz C.1 Zr=false:=Yc (a1 b1) (by decide);have c9:((n1:Int)==1)=false:=by simp;omega
  have d0:¬(n1:Int)=1:=by omega
  cases N:X4 ts sz (H) [93]
  case false=>
   go_wp2_with fail;go_fit(ZX (s:=H) n.o j [93] #[93] rfl N);rintro e w⟨rfl,hm⟩;have hB:=Pr.Bd.Zw (ts:=ts) (sz:=sz) (s:=H) j N;exact⟨rfl,.inr ⟨_,rfl,.Bm (r2:=(H,n1)) J E.o h1 K.o hB,A.o.t hm⟩⟩
  go_wp2_with fail;go_fit(upI A (Nat.le_succ_of_le W.o) (ZY (s:=H) n.o [93] #[93] rfl N));rintro e w3⟨rfl,hm,v,k,L⟩;have d:=X1 (a.o.mv hm.o B (X5 _));clear a;go_wp2_with fail;go_fit(upN (8) (0) (0) ⟨#[]⟩ d v k);rintro e w4⟨rfl,F,U,X⟩;have HY:=X1 (show Xd ts sz H [93]=X2 H from Yw N);go_wp2;go_ret;exact .inl ⟨(X9 (Xd ts sz H [93]) 8 0 0 [] n1,0),_,_,rfl,.VZ (r2:=(H,n1)) J h1 E.o K.o,by rw[HY.o];exact j,by rw[HY.o];simp[X9,Z.o],by rw[HY.o];exact U.o,X.o,F.o⟩
 subst b1;obtain rfl:=b2 rfl;cases u:X4 ts sz C.1 Zr
 case false=>
  have h1:=u;go_wp2_with fail;go_fit(upB A (W.o) (XK (s:=C.1) n.o j Zr #[102,111,114] rfl u));rintro e w3⟨rfl,hm,v,k,L⟩;have d:=X1 (a.o.mv hm.o B (X5 _));clear a;cases O:X4 ts sz (C.1) [93]
  case false=>
   go_wp2_with fail;go_fit(ZX (s:=C.1) v.o j [93] #[93] rfl O);rintro e w⟨rfl,hm⟩;have hB:=Pr.Bd.Zw (ts:=ts) (sz:=sz) (s:=C.1) j O;exact⟨rfl,.inr ⟨_,rfl,.Bm (r2:=(C.1,1)) J E.o h1 K.o hB,k.o.t hm⟩⟩
  go_wp2_with fail;go_fit(upI k (Nat.le_succ_of_le L.o) (ZY (s:=C.1) v.o [93] #[93] rfl O));rintro e w4⟨rfl,hm,U,X,c5⟩;have a0:=X1 (d.o.mv hm.o B (X5 _));clear d;go_wp2_with fail;go_fit(upN (8) (0) (0) ⟨#[]⟩ a0 U X);rintro e w5⟨rfl,F,b5,b6⟩;have HY:=X1 (show Xd ts sz C.1 [93]=X2 C.1 from Yw O);go_wp2;go_ret;exact .inl ⟨(X9 (Xd ts sz C.1 [93]) 8 0 0 [] 1,0),_,_,rfl,.VZ (r2:=(C.1,1)) J h1 E.o K.o,by rw[HY.o];exact j,by rw[HY.o];simp[X9,Z.o],by rw[HY.o];exact b5.o,b6.o,F.o⟩
 go_wp2_with fail;go_fit(upI A (Nat.le_succ_of_le W.o) (ZH (s:=C.1) n.o Zr #[102,111,114] rfl u));rintro e w3⟨rfl,hm,v,k,L⟩;have d:=X1 (a.o.mv hm.o B (X5 _));clear a;obtain⟨g3,c3,t3,u3,c1,b8,b3⟩:=d.o.head;cases c1;have Q:=X1 (X2x (lo:=w0.heap.size) J E.o b7 Z.o u L.o b4 B w3 k.o.size v.o b3);clear b3;go_wp2_with fail;go_fit Q.o;rintro e w4 (⟨r1,v1,l1,rfl,hc,j,ho,hd,hm,hp⟩|⟨q,rfl,hq,hm⟩);rotate_left
 .exact⟨rfl,.inr ⟨_,rfl,hq,k.o.t hm⟩⟩
 have HH:=X1 (Ip.I4.GK (e:= .returned v1) (.inl ⟨r1,v1,l1,rfl,hc,j,ho,hd,hm,hp⟩) k.o);clear hc ho hd hm hp Q;go_wp2;go_ret;exact HH.o
theorem NT{w a:World}{o:Obj}(h:Below (w.alloc o).heap.size (w.alloc o) a)(i:Nat)(v:Value):Below w.heap.size w (a.setCell ⟨w.heap.size,i,none⟩ v):=((bA _).trans (h.mono (by simp))).setCell (by exact X5 _) v
theorem Zg{w g:World}{a b c d e:Value}{t:TypeId}(h:Below (w.alloc (.cells #[a,b,c,d,e] t)).heap.size (w.alloc (.cells #[a,b,c,d,e] t)) g):g.cell? ⟨w.heap.size,0,none⟩=some a/\g.cell? ⟨w.heap.size,1,none⟩=some b/\g.cell? ⟨w.heap.size,2,none⟩=some c/\g.cell? ⟨w.heap.size,3,none⟩=some d/\g.cell? ⟨w.heap.size,4,none⟩=some e/\g.frozen? ⟨w.heap.size,3,none⟩=false:=by
 have j:g.heap[w.heap.size]?=some (.cells #[a,b,c,d,e] t):=(h.block w.heap.size (by simp)).trans (YV w _);have k:g.frozen? ⟨w.heap.size,3,none⟩=(w.alloc (.cells #[a,b,c,d,e] t)).frozen? ⟨w.heap.size,3,none⟩:=h.frozen (p:=⟨w.heap.size,3,none⟩) (by simp);refine⟨?_,?_,?_,?_,?_,?_⟩;all_goals first|(rw[World.cell?,j];rfl)|(rw[k];simp)
theorem Nk{k:Int}(a:k=5\/k=11\/k=14\/k=16\/k=18\/k=19\/k=20\/k=21)(op n m:Int)(s:ByteArray):Xr ⟨k,op,n,s,m⟩=(K6 s&&(op==0)&&(n==0)):=by
 rcases a with rfl|rfl|rfl|rfl|rfl|rfl|rfl|rfl<;>(rw[YH];simp[Xr,Yq,Xs];grind)
theorem Na(op n m:Int)(s:ByteArray):Xr ⟨2,op,n,s,m⟩=((n==0||n==1)&&(op==0)&&s.toList.isEmpty):=by
 rw[YH];simp[Xr,Yq,Xs];grind
theorem Nc(op n m:Int)(s:ByteArray):Xr ⟨3,op,n,s,m⟩=(decide (0<=n)&&(op==0)&&s.toList.isEmpty):=by
 rw[YH];simp[Xr,Yq,Xs];grind
theorem Nh(op n m:Int)(s:ByteArray):Xr ⟨6,op,n,s,m⟩=((op==1||op==2)&&(n==0)&&s.toList.isEmpty):=by
 rw[YH];simp[Xr,Yq,Xs];grind
theorem Ni(op n m:Int)(s:ByteArray):Xr ⟨7,op,n,s,m⟩=(decide (1<=op)&&decide (op<=14)&&(n==0)&&s.toList.isEmpty):=by
 rw[YH];simp[Xr,Yq,Xs];grind
theorem Nb(op n m:Int)(s:ByteArray):Xr ⟨23,op,n,s,m⟩=(U0 s&&(op==0)&&(n==0)):=by
 rw[YH];simp[Xr,Yq,Xs];grind
theorem Ng{k:Int}(a:k=4\/k=17)(op n m:Int)(s:ByteArray):Xr ⟨k,op,n,s,m⟩=(decide ((s.size:Int)<=1000)&&(op==0)&&(n==0)):=by
 rcases a with rfl|rfl<;>(rw[YH];simp[Xr,Yq,Xs];grind)
theorem Nj(k op n m:Int)(s:ByteArray)(h:Yq k=false)(g:k≠2)(j:k≠3)(u:k≠6)(v:k≠7)(r:k≠4)(a:k≠17)(d:k≠23):Xr ⟨k,op,n,s,m⟩=((op==0)&&(n==0)&&s.toList.isEmpty):=by
 rw[YH];simp[Xr,h,g,j,u,v,r,a,d];grind
theorem Y2z{k:Int}(a:k=2\/k=3\/k=6\/k=7\/k=4\/k=17\/k=23)(op n m:Int)(s:ByteArray)(b:Nat)(w:World)(d:s.size<=1048576): CB 29 #[.agg #[.q k,.q op,.q n,.string s,.q m],.map (some b)] w (.bool (Xr ⟨k,op,n,s,m⟩)):=by
 rcases a with rfl|rfl|rfl|rfl|rfl|rfl|rfl;all_goals
  go_enter func29,ntmps29;go_wp2_with(go_at_call 60;go_fit(X5v _ _ d);rintro e w'⟨rfl,rfl⟩);all_goals
   go_ret;refine⟨Xn ?_,bA _⟩;first|rw[Na]|rw[Nc]|rw[Nh]|rw[Ni]|rw[Nb]|rw[Ng (by simp)]
   first|(simp[*];done)|(simp_all;done)|(simp_all;intros;omega)
theorem Y2x{k:Int}(d:k=5\/k=11\/k=14\/k=16\/k=18\/k=19\/k=20\/k=21)(op n m:Int)(s:ByteArray)(b:Nat)(w:World)(r:s.size<=1048576)(hm:w.ownsMap (H:=Unit) prog 9 unitElem b 17 Sc.Q6): CB 29 #[.agg #[.q k,.q op,.q n,.string s,.q m],.map (some b)] w (.bool (Xr ⟨k,op,n,s,m⟩)):=by
 have j:=X1 hm;have g:=X1 (Nk d op n m s);clear hm;rcases d with rfl|rfl|rfl|rfl|rfl|rfl|rfl|rfl;all_goals
  go_enter func29,ntmps29;go_wp2_with(go_at_call 61;go_fit(Om s b _ r (j.o.alloc _));rintro e v⟨rfl,a⟩;obtain⟨y,A,B,C,E,F⟩:=Zg a;have u:w.heap.size<v.heap.size:=XH (by simp) a.size);all_goals
   go_ret;refine⟨Xn ?_,NT a _ _⟩;rw[g.o];first|(simp[*];done)|(simp_all;done)|(simp_all;intros;omega)
theorem Y2y(k op n m:Int)(s:ByteArray)(b:Nat)(w:World)(h:Yq k=false)(d:k≠2)(g:k≠3)(j:k≠6)(r:k≠7): CB 29 #[.agg #[.q k,.q op,.q n,.string s,.q m],.map (some b)] w (.bool (Xr ⟨k,op,n,s,m⟩)):=by
 have a:k≠4/\k≠5/\k≠11/\k≠14/\k≠16/\k≠17/\k≠18/\k≠19/\k≠20/\k≠21/\k≠23:=by
  simp[Yq,Xs]at h;omega
 have u:=X1 (Nj k op n m s h d g j r a.1 a.2.2.2.2.2.1 a.2.2.2.2.2.2.2.2.2.2);have J:(k==2)=false:=by simp;omega
 have K:(k==3)=false:=by simp;omega
 have N:(k==6)=false:=by simp;omega
 have O:(k==7)=false:=by simp;omega
 have L:(k==4)=false:=by simp;omega
 have B:(k==17)=false:=by simp;omega
 have I:(k==23)=false:=by simp;omega
 have M:(k==5)=false:=by simp;omega
 have v:(k==11)=false:=by simp;omega
 have y:(k==14)=false:=by simp;omega
 have A:(k==16)=false:=by simp;omega
 have C:(k==18)=false:=by simp;omega
 have E:(k==19)=false:=by simp;omega
 have F:(k==20)=false:=by simp;omega
 have H:(k==21)=false:=by simp;omega
 clear h d g j r a;go_enter func29,ntmps29;go_wp2;all_goals
  go_ret;refine⟨Xn ?_,bA _⟩;rw[u.o];first|(simp[*];done)|(simp_all;done)|(simp_all;intros;omega)
theorem R8(k op n m:Int)(s:ByteArray)(b:Nat)(w:World)(a:s.size<=1048576)(hm:w.ownsMap (H:=Unit) prog 9 unitElem b 17 Sc.Q6): CB 29 #[.agg #[.q k,.q op,.q n,.string s,.q m],.map (some b)] w (.bool (Xr ⟨k,op,n,s,m⟩)):=by
 by_cases d:k=2\/k=3\/k=6\/k=7\/k=4\/k=17\/k=23
 .exact Y2z d op n m s b w a
 by_cases g:k=5\/k=11\/k=14\/k=16\/k=18\/k=19\/k=20\/k=21
 .exact Y2x g op n m s b w a hm
 exact Y2y k op n m s b w (by simp[Yq,Xs];omega) (by omega) (by omega) (by omega) (by omega)
