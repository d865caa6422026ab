import Derived.Test.YtaeafhenpjnhiaaGreatDoorE35
import Derived.Test.YtaeafhenpjnhiaaGreatDoorE34
import Derived.Test.YtaeafhenpjnhiaaGreatDoorE39
set_option maxHeartbeats 4000000
set_option maxRecDepth 100000
namespace Go.Proofs.YtaeafhenpjnhiaaGreatDoor
open Tryz Go.RowKit
def Gr.cells(x:Gr):List Value:=[.q x.nd.kind,.q x.nd.op,.q x.nd.n,.string x.nd.text,.q x.nd.kids,.q x.high]
def YP(l:List Gr):List Value:=l.flatMap Gr.cells
theorem S5(l:List Gr)(m:Nat):(YP l).take (m*6)=YP (l.take m):=by
 induction l generalizing m with
 | nil=>simp[YP]
 | cons x r a=>
  cases m with
  | zero=>simp[YP]
  | succ m=>
   rw[show YP (x::r)=x.cells++YP r from rfl,Jc,show YP (x::r.take m)=x.cells++YP (r.take m)from rfl,←a m,List.take_append,show x.cells.length=6 from rfl,I8 (by rw[show x.cells.length=6 from rfl];omega)];congr 2;omega
theorem Hh(l:List Gr)(i:Nat)(h:i<l.length):(YP l)[i*6]?=some (.q l[i].nd.kind)/\(YP l)[i*6+1]?=some (.q l[i].nd.op)/\(YP l)[i*6+2]?=some (.q l[i].nd.n)/\(YP l)[i*6+3]?=some (.string l[i].nd.text)/\(YP l)[i*6+4]?=some (.q l[i].nd.kids)/\(YP l)[i*6+5]?=some (.q l[i].high):=by
 induction l generalizing i with
 | nil=>simp at h
 | cons x r d=>
  rw[show YP (x::r)=x.cells++YP r from rfl]
  match i,h with
  | 0,_=>simp[Gr.cells]
  | i+1,h=>
   have:=d i (by simpa using h);have a:x.cells.length=6:=rfl;refine⟨?_,?_,?_,?_,?_,?_⟩;all_goals rw[Q7 (by omega),a]
   .rw[show(i+1)*6-6=i*6 from by omega];exact this.1
   .rw[show(i+1)*6+1-6=i*6+1 from by omega];exact this.2.1
   .rw[show(i+1)*6+2-6=i*6+2 from by omega];exact this.2.2.1
   .rw[show(i+1)*6+3-6=i*6+3 from by omega];exact this.2.2.2.1
   .rw[show(i+1)*6+4-6=i*6+4 from by omega];exact this.2.2.2.2.1
   .rw[show(i+1)*6+5-6=i*6+5 from by omega];exact this.2.2.2.2.2
theorem AA{w:World}{base:Nat}{e:TypeId}{g cap:Nat}{l:List Gr}(h:w.ownsRow base e 6 (.l g l.length cap) l.length (YP l)):KK w g 0 l:=by
 refine⟨(J8 h).2.2,fun i hi=>?_⟩;obtain⟨a,d,j,k,m,n⟩:=Hh l i hi;simp only[Xu];exact⟨(h.cellAt (i*6) (by omega)).trans a,(h.cellAt (i*6+1) (by omega)).trans d,(h.cellAt (i*6+2) (by omega)).trans j,(h.cellAt (i*6+3) (by omega)).trans k,(h.cellAt (i*6+4) (by omega)).trans m,(h.cellAt (i*6+5) (by omega)).trans n⟩
theorem CT{w:World}{base size:Nat}{e:TypeId}{g n cap:Nat}{r:List Value}(h:w.ownsRow base e size (.l g n cap) n r)(m:Nat)(hm:m<=n):w.ownsRow base e size (.l g m cap) m (r.take (m*size)):=by
 obtain⟨s,d⟩:=h;have j:m*size<=n*size:=Vz _ hm;refine⟨by rw[YO,s];omega,.inr ?_⟩;rcases d with⟨d,_⟩|⟨E,k,a,C,u,y,F,v,A,B⟩
 .cases d
 .cases C;refine⟨g,cap,a,rfl,u,y,by omega,v,A,?_⟩;rw[←B,Mm,Jv j]
theorem D8{w d:World}{base:Nat}{e:TypeId}{size:Nat}{v:Value}{n:Nat}{g:List Value}(h:w.ownsRow base e size v n g)(a:BL w d):d.ownsRow base e size v n g:=by
 have j:w.grownBy d none:=⟨a.os,a.tape,a.output,a.size,fun k m _=>a.block k m⟩;refine h.kept j ?_;cases r:v.ownBlock with
 | none=>exact .inl rfl
 | some k=>exact .inr (by simp)
theorem OD{w j:World}{P:Program}{k b n:Nat}{D:DataW Unit}(h:w.ownsMap P k unitElem b n D)(s:BL w j):j.ownsMap P k unitElem b n D:=by
 obtain⟨m,a,g,r⟩:=h;have d:b<w.heap.size:=(QS.1 g).1;exact⟨m,a,(s.block b d).trans g,r⟩
theorem PM{P:Program}{ops:Array Oper}{o:Oper}{a:Act}{w:World}{K:Act->World->Prop}{Q:Exit->Act->World->Prop}{E:Prop}(I:o.guard=none)(s x:Operand)(t:TypeId)(Z:o.op= .call {callee:= .builtin .append,args:=#[s,x],argTypes:=#[t,t]})(base:Nat)(e:TypeId)(i:TypeInfo)(z:Value)(size g:Nat)(ht:P.underlying t=some (.slice e))(hi:P.info? e=some i)(hz:i.zero=some z)(A:i.size=size)(H:i.bytes=g)(L:z.cells.size=size)(J:0<size)(v:Value)(n:Nat)(M:List Value)(hs:a.eval s=v)(B:w.ownsRow base e size v n M)(C:Addr)(m c:Nat)(d:List Value)(hx:a.eval x= .slice (some C) m c)(X:d.length=m*size)(y:∀j u,d[j]?=some u->w.cell? (C.add j)=some u)(N:∀u∈d,u.oneCell'=true)(F:n+m<=maxLen)(k:(n+m)*g<=140737488355328)(r:base<=w.heap.size)(W:∀v' w',w'.ownsRow base e size v' (n+m) (M++d)->w.grownBy w' v.ownBlock->(v'= .slice none 0 0↔v= .slice none 0 0/\m=0)->(v'.ownBlock=v.ownBlock\/v'.ownBlock=some w.heap.size)->K (a.put o.dst v') w'): if Region.wanted o (yielded ops a.tmps)=true then Oper.wp P o a w K Q else E:=by
 have hw:Region.wanted o (yielded ops a.tmps)=true:=by simp[Region.wanted,I]
 rw[Xa hw];obtain⟨v',w',hr,O,S,U,V⟩:=CU (P:=P) w base t o.type e i z size g ht hi hz A H L J v n M B C m c d X y N F k r;unfold Oper.wp execOp;simp only[Z,resolve,invoke,builtin,ZB,Jd,ZA,Qg,Y5,YD,hs,hx,hr];exact W _ _ O S U V
theorem Hl(ns:List Nd)(i:Nat)(h:i<ns.length)(op:List Gr)(a:ns[i].kids<0\/(op.length:Int)<ns[i].kids):ZS (ns.drop i) op=none:=by
 rw[KM h,ZS,Xa a]
theorem Hn(ns:List Nd)(i:Nat)(h:i<ns.length)(op:List Gr)(k m:Nat)(a:ns[i].kids=k)(hm:op.length=m+k): ZS (ns.drop i) op=if KQ ns[i] (op.drop m)=true then ZS (ns.drop (i+1)) (op.take m++[⟨ns[i],Zs (op.drop m) 0⟩])else none:=by
 rw[KM h,ZS,X6 (by omega),show op.length-ns[i].kids.toNat=m from by omega]
theorem LK{w:World}{B n size:Nat}{e:TypeId}{v:Value}{d:List Value}(h:w.ownsRow B e size v n d):(v= .slice none 0 0/\n=0)\/∃g cap,v= .l g n cap:=by
 rcases h.2 with h|⟨g,cap,_,a,_⟩
 .exact .inl h
 .exact .inr ⟨g,cap,a⟩
theorem MF(l:List Gr)(h b:Nat)(a:∀x∈l,x.high+1<=b)(d:h<=b):Zs l h<=b:=by
 induction l generalizing h with
 | nil=>exact d
 | cons x r j=>
  rw[Zs];exact j _ (fun y g=>a y (by simp[g])) (by have:=a x (by simp);split<;>omega)
theorem ME{k n:Int}(h:K5 k n=true)(a:k=12\/k=15\/k=20):1<=n:=by
 rcases a with rfl|rfl|rfl<;>(simp[K5]at h;omega)
theorem ML(w:World)(x:Gr)(t:TypeId):∀(j:Nat) (u:Value),x.cells[j]?=some u->(w.z #[.q x.nd.kind,.q x.nd.op,.q x.nd.n,.string x.nd.text,.q x.nd.kids,.q x.high] t).cell? ((⟨w.heap.size,0,none⟩:Addr).add j)=some u:=by
 intro j u h;rw[MH,Xu,World.cell?,YV];simpa[Gr.cells]using h
theorem OW(x:Gr):∀u∈x.cells,u.oneCell'=true:=by
 intro u a;simp only[Gr.cells,Kr,QU,J7]at a;rcases a with rfl|rfl|rfl|rfl|rfl|rfl<;>rfl
theorem UO{w a:World}(h:Below w.drew.heap.size w.drew a):Below w.heap.size w a:=(X8 _ _).drew.trans h
theorem X3r:(prog.info? 79).map (fun i=>(i.zero,i.size,i.bytes))=some (some (.agg #[.q 0,.q 0,.q 0,.t #[],.q 0,.q 0]),6,56):=by kernel_rfl
theorem On(ns:List Nd)(tg tc:Nat)(w:World)(hn:ns.length<=1048576)(c8:∀x∈ns,x.text.size<=1048576)(ht:K1 w tg ns): CB 11 #[.agg #[.l tg ns.length tc]] w (.bool (Kk ns)):=by
 obtain⟨iG,hG,c2,c1,b9⟩:=YK X3r;have r1:BL w (w.z #[.l tg ns.length tc] 25):=bA _;have HT:=X1 ht;have HX:=X1 c8;clear ht c8;by_cases d4:5000<ns.length
 .have HD:Hid (Kk ns=false):=X1 (by unfold Kk;rw[JP (by omega)];rfl);go_enter func11,ntmps11;go_wp2;go_ret;exact⟨Xn HD.o.symm,r1⟩
 .have HD:Hid (Kk ns=UH (ZS ns [])):=X1 (by unfold Kk;rw[DU (by omega)];rfl);go_enter func11,ntmps11;go_wp2_with fail;go_fit(M7 _);rintro e w1⟨rfl,N,c3⟩;have A:Hid (BL w w1):=X1 (r1.trans (c3.mono (by simp)));have d5:w1.cell? ⟨w.heap.size,0,none⟩=some (.l tg ns.length tc):=(c3.cell (p:=⟨w.heap.size,0,none⟩) (by simp)).trans (by simp);have b8:=X1 N;clear N c3;rw[Yx]at *;go_wp2
  go_loopw[4,17] (fun v4 t wr=>∃(i:Nat) (op:List Gr),i<=ns.length/\t= .q i/\op.length<=i/\(∀x∈op,x.high<=i/\x.nd.text.size<=1048576)/\wr.ownsRow w1.heap.size 79 6 v4 op.length (YP op)/\BL w1 wr/\
    ZS ns []=ZS (ns.drop i) op) (fun _ t _=>ns.length-(intOf t).toNat)
  case atStart=>exact⟨0,[],Xb _,rfl,X5 _,(fun x h=>by cases h),K7 _ _ _ _,X8 _ _,rfl⟩
  case round=>
   obtain⟨i,op,d8,rfl,e0,c7,ho,hB,he⟩:=hrel;have HE:=X1 he;have a1:=X1 c7;clear he c7;by_cases b6:i<ns.length
   .have hN:=(HT.o.below (A.o.trans (hB.mono A.o.size))).2 i b6;obtain⟨n0,n1,n2,n3,n4⟩:=hN;have a6:=X1 (Hl ns i b6 op);have H:=X1 (Hn ns i b6 op);have Z:=HX.o ns[i] (YJ b6);generalize d1:ns[i]=d at *;clear d1;obtain⟨B,j,E,dt,S⟩:=d;simp only at n0 n1 n2 n3 n4 a6 H Z;by_cases b7:S<0
    .have K:Hid (Kk ns=false):=X1 (by rw[HD.o,HE.o,a6.o (.inl b7)];rfl);go_wp2;go_ret;exact⟨Xn K.o.symm,A.o.trans ((hB.alloc hB.size _).mono A.o.size)⟩
    .by_cases a5:(op.length:Int)<S
     .have K:Hid (Kk ns=false):=X1 (by rw[HD.o,HE.o,a6.o (.inr a5)];rfl);rcases LK ho with⟨rfl,hz⟩|⟨g,cap,rfl⟩
      .rw[hz]at a5;have c9:0<S:=by omega
       go_wp2;go_ret;exact⟨Xn K.o.symm,A.o.trans ((hB.alloc hB.size _).mono A.o.size)⟩
      .go_wp2;go_ret;exact⟨Xn K.o.symm,A.o.trans ((hB.alloc hB.size _).mono A.o.size)⟩
     obtain⟨k,rfl⟩:∃k:Nat,S=k:=⟨S.toNat,by omega⟩;obtain⟨m,hm⟩:∃m,op.length=m+k:=⟨op.length-k,by omega⟩;have hq:¬((m:Int)+(k:Int)<(k:Int)):=by omega
     have d3:decide ((m:Int)+(k:Int)<(k:Int))=false:=by simp;omega
     clear b7 a5;rcases LK ho with⟨rfl,hz⟩|⟨g,cap,rfl⟩
     .obtain rfl:k=0:=by omega
      obtain rfl:m=0:=by omega
      obtain rfl:op=[]:=Qx hz;have Q:Hid (GrV (wr.z #[.q B,.q j,.q E,.string dt,.q 0] 64) (.slice none 0 0) []):=X1 (.inl ⟨_,_,rfl,rfl⟩);have b0:Hid (wr.ownsRow w1.heap.size 79 6 (.slice none 0 0) 0 (YP [])):=X1 (K7 _ _ _ _)
      replace H:=X1 (H.o 0 0 rfl rfl)
      rw[show List.drop 0 ([]:List Gr)=[]from rfl,show List.take 0 ([]:List Gr)=[]from rfl,show((0:Nat):Int)=0 from rfl]at H;clear ho hq d3 hm hz;have L:=X1 (hB.alloc hB.size (.cells #[.q B,.q j,.q E,.string dt,.q 0] 64));have HU:=X1 (R8 B j E 0 dt (w.heap.size+1) (wr.z #[.q B,.q j,.q E,.string dt,.q 0] 64) Z (OD b8.o L.o));have HC:=X1 (MQ B j E 0 dt);cases hp:Xr ⟨B,j,E,dt,0⟩
      .have K:Hid (Kk ns=false):=X1 (by rw[HD.o,HE.o,H.o,X6 (by unfold KQ;rw[hp];simp)];rfl);have s:=HU.o;rw[hp]at s
       replace s:=X1 s
       go_wp2_with fail;go_fit s.o;rintro e w2⟨rfl,a⟩;obtain⟨x0,x1,x2,x3,x4,x5⟩:=Zg a;go_wp2;go_ret;exact⟨Xn K.o.symm,A.o.trans ((L.o.trans (a.mono (L.o.size))).mono A.o.size)⟩
      .have s:=HU.o;rw[hp]at s
       replace s:=X1 s
       cases hc:K5 B 0
       .have K:Hid (Kk ns=false):=X1 (by rw[HD.o,HE.o,H.o,X6 (by unfold KQ;rw[hp,hc];simp)];rfl);have u:=HC.o;rw[hc]at u
        replace u:=X1 u
        go_wp2_with fail;go_fit s.o;rintro e w2⟨rfl,a⟩;obtain⟨x0,x1,x2,x3,x4,x5⟩:=Zg a;go_wp2_with fail;go_fit(u.o _);rintro e w3⟨rfl,F⟩;have r:=a.trans (F.mono a.size);obtain⟨y0,y1,y2,y3,y4,y5⟩:=Zg r;go_wp2;go_ret;exact⟨Xn K.o.symm,A.o.trans ((L.o.trans (r.mono (L.o.size))).mono A.o.size)⟩
       .have u:=HC.o;rw[hc]at u
        replace u:=X1 u
        have O:Hid (∀w',GrV w' (.slice none 0 0) ([])->Calls prog 31 #[.agg #[.q B,.q j,.q E,.string dt,.q 0],(.slice none 0 0)] w' fun e a0=>e= .returned (.bool (YE B ([])))/\BL w' a0):=X1 fun w' hg=>Oq B j E 0 dt ([]) _ w' (Xb _) (fun h=>by have:=ME hc h;omega) (fun x J=>by cases J) hg;cases hf:YE B ([])
        .have K:Hid (Kk ns=false):=X1 (by rw[HD.o,HE.o,H.o,X6 (by unfold KQ;rw[hp,hc,hf];simp)];rfl);have v:=O.o;rw[hf]at v
         replace v:=X1 v
         go_wp2_with fail;go_fit s.o;rintro e w2⟨rfl,a⟩;obtain⟨x0,x1,x2,x3,x4,x5⟩:=Zg a;go_wp2_with fail;go_fit(u.o _);rintro e w3⟨rfl,F⟩;have r:=a.trans (F.mono a.size);obtain⟨y0,y1,y2,y3,y4,y5⟩:=Zg r;go_wp2_with fail;go_fit(v.o _ (Q.o.below r));rintro e w4⟨rfl,M⟩;have y:=r.trans (M.mono r.size);obtain⟨z0,z1,z2,z3,z4,z5⟩:=Zg y;go_wp2;go_ret;exact⟨Xn K.o.symm,A.o.trans ((L.o.trans (y.mono (L.o.size))).mono A.o.size)⟩
        .have K:Hid (ZS ns []=ZS (ns.drop (i+1)) ([]++[⟨⟨B,j,E,dt,0⟩,Zs ([]) 0⟩])):=X1 (by rw[HE.o,H.o,Xa (by unfold KQ;rw[hp,hc,hf];rfl)]);have v:=O.o;rw[hf]at v
         replace v:=X1 v
         have b4:Zs ([]) 0<=i+1:=MF _ _ _ (fun x J=>by cases J) (by omega);have a8:Hid (∀w',GrV w' (.slice none 0 0) ([])->Calls prog 32 #[(.slice none 0 0)] w' fun e a0=>e= .returned (.q (Zs ([]) 0:Nat))/\BL w' a0):=X1 fun w' hg=>O9 ([]) _ w' (Xb _) (fun x J=>by cases J) hg;generalize a4:Zs ([]) 0=ov at *;clear a4 HU HC O a6 H;go_wp2_with fail;go_fit s.o;rintro e w2⟨rfl,a⟩;obtain⟨x0,x1,x2,x3,x4,x5⟩:=Zg a;go_wp2_with fail;go_fit(u.o _);rintro e w3⟨rfl,F⟩;have r:=a.trans (F.mono a.size);obtain⟨y0,y1,y2,y3,y4,y5⟩:=Zg r;go_wp2_with fail;go_fit(v.o _ (Q.o.below r));rintro e w4⟨rfl,M⟩;have y:=r.trans (M.mono r.size);obtain⟨z0,z1,z2,z3,z4,z5⟩:=Zg y;have U:BL w1 w4:=L.o.trans (y.mono L.o.size);have a7:Hid (GrV w4.drew (.slice none 0 0) ([])):=X1 ((Q.o.below y).below (X8 _ _).drew);have a9:Hid (w4.ownsRow w1.heap.size 79 6 (.slice none 0 0) 0 (YP ([]))):=X1 (D8 (b0.o.alloc _) y);have a2:=X1 y;clear a F M r x0 x1 x2 x3 x4 x5 y0 y1 y2 y3 y4 y5 v u s y;go_wp2;go_region_law(first
          | (refine Db rfl 32 (.tmp 58) 73 rfl (.slice none 0 0) (.q (ov:Nat)) (by simp[Act.eval,Act.put]) f32 func32 (by kernel_rfl) (by kernel_rfl) _ (a8.o _ a7.o) ?_;intro w5 I;obtain⟨y0,y1,y2,y3,y4,y5⟩:=Zg (a2.o.trans ((UO I).mono a2.o.size)))
          | (refine PM rfl (.tmp 56) (.tmp 61) 73 rfl w1.heap.size 79 iG _ 6 56 underlying73 hG c2 c1 b9 rfl (by decide) (.slice none 0 0) 0 (YP ([])) (by simp[Act.eval]) ((D8 a9.o (UO I)).alloc _) ⟨w5.heap.size,0,none⟩ 1 1 (Gr.cells ⟨⟨B,j,E,dt,0⟩,ov⟩) (by simp[Act.eval]) rfl (ML _ _ _) (OW _) (by unfold maxLen;omega) (by omega) (by have:=U.size;have:=I.size;simp at *;omega) ?_;intro v6 w6 X C W a3))
         all_goals
          have V:BL w1 w5:=U.trans ((UO I).mono U.size);have b2:BL w1 w6:=(V.alloc V.size _).grown C (by simp;have:=V.size;omega) (fun q e=>by simp[Value.ownBlock]at e);clear C W a3 I;go_wp2;go_roundw
          case rel=>
           refine⟨i+1,[]++[⟨⟨B,j,E,dt,0⟩,ov⟩],by omega,by go_num,?_,?_,?_,b2,K.o⟩
           .simp
           .intro x J;rcases KC.1 J with J|J
            .cases J
            .obtain rfl:x=_:=V1.1 J;exact⟨b4,Z⟩
           .have b3:([]++[(⟨⟨B,j,E,dt,0⟩,ov⟩:Gr)]).length=0+1:=rfl;have N:YP ([]++[(⟨⟨B,j,E,dt,0⟩,ov⟩:Gr)])=YP ([])++Gr.cells ⟨⟨B,j,E,dt,0⟩,ov⟩:=by simp[YP]
            rw[b3,N];exact X
          case measure=>simp[intOf];omega
     .obtain⟨c4,d6,d7⟩:=J8 ho;by_cases d0:cap=m
      .have c6:m=cap:=d0.symm;subst c6;have Q:Hid (GrV (wr.z #[.q B,.q j,.q E,.string dt,.q (k:Int)] 64) (.l g k 0) (op.drop m)):=X1 (by
        have d2:k=0:=by omega
        rw[d2];exact .inl ⟨_,_,rfl,YI (by omega)⟩)
       have b0:Hid (wr.ownsRow w1.heap.size 79 6 (.l g m m) m (YP (op.take m))):=X1 (by rw[←S5];exact CT ho m (by omega));clear ho;have L:=X1 (hB.alloc hB.size (.cells #[.q B,.q j,.q E,.string dt,.q (k:Int)] 64));have HU:=X1 (R8 B j E (k:Int) dt (w.heap.size+1) (wr.z #[.q B,.q j,.q E,.string dt,.q (k:Int)] 64) Z (OD b8.o L.o));have HC:=X1 (MQ B j E (k:Int) dt);cases hp:Xr ⟨B,j,E,dt,(k:Int)⟩
       .have K:Hid (Kk ns=false):=X1 (by rw[HD.o,HE.o,H.o k m rfl hm,X6 (by unfold KQ;rw[hp];simp)];rfl);have s:=HU.o;rw[hp]at s
        replace s:=X1 s
        go_wp2_with fail;go_fit s.o;rintro e w2⟨rfl,a⟩;obtain⟨x0,x1,x2,x3,x4,x5⟩:=Zg a;go_wp2;go_ret;exact⟨Xn K.o.symm,A.o.trans ((L.o.trans (a.mono (L.o.size))).mono A.o.size)⟩
       .have s:=HU.o;rw[hp]at s
        replace s:=X1 s
        cases hc:K5 B (k:Int)
        .have K:Hid (Kk ns=false):=X1 (by rw[HD.o,HE.o,H.o k m rfl hm,X6 (by unfold KQ;rw[hp,hc];simp)];rfl);have u:=HC.o;rw[hc]at u
         replace u:=X1 u
         go_wp2_with fail;go_fit s.o;rintro e w2⟨rfl,a⟩;obtain⟨x0,x1,x2,x3,x4,x5⟩:=Zg a;go_wp2_with fail;go_fit(u.o _);rintro e w3⟨rfl,F⟩;have r:=a.trans (F.mono a.size);obtain⟨y0,y1,y2,y3,y4,y5⟩:=Zg r;go_wp2;go_ret;exact⟨Xn K.o.symm,A.o.trans ((L.o.trans (r.mono (L.o.size))).mono A.o.size)⟩
        .have u:=HC.o;rw[hc]at u
         replace u:=X1 u
         have O:Hid (∀w',GrV w' (.l g k 0) (op.drop m)->Calls prog 31 #[.agg #[.q B,.q j,.q E,.string dt,.q (k:Int)],(.l g k 0)] w' fun e a0=>e= .returned (.bool (YE B (op.drop m)))/\BL w' a0):=X1 fun w' hg=>Oq B j E (k:Int) dt (op.drop m) _ w' (by rw[YC];omega) (fun h=>by rw[YC];have:=ME hc h;omega) (fun x J=>(a1.o x (Q8 J)).2) hg;cases hf:YE B (op.drop m)
         .have K:Hid (Kk ns=false):=X1 (by rw[HD.o,HE.o,H.o k m rfl hm,X6 (by unfold KQ;rw[hp,hc,hf];simp)];rfl);have v:=O.o;rw[hf]at v
          replace v:=X1 v
          go_wp2_with fail;go_fit s.o;rintro e w2⟨rfl,a⟩;obtain⟨x0,x1,x2,x3,x4,x5⟩:=Zg a;go_wp2_with fail;go_fit(u.o _);rintro e w3⟨rfl,F⟩;have r:=a.trans (F.mono a.size);obtain⟨y0,y1,y2,y3,y4,y5⟩:=Zg r;go_wp2_with fail;go_fit(v.o _ (Q.o.below r));rintro e w4⟨rfl,M⟩;have y:=r.trans (M.mono r.size);obtain⟨z0,z1,z2,z3,z4,z5⟩:=Zg y;go_wp2;go_ret;exact⟨Xn K.o.symm,A.o.trans ((L.o.trans (y.mono (L.o.size))).mono A.o.size)⟩
         .have K:Hid (ZS ns []=ZS (ns.drop (i+1)) (op.take m++[⟨⟨B,j,E,dt,(k:Int)⟩,Zs (op.drop m) 0⟩])):=X1 (by rw[HE.o,H.o k m rfl hm,Xa (by unfold KQ;rw[hp,hc,hf];rfl)]);have v:=O.o;rw[hf]at v
          replace v:=X1 v
          have b4:Zs (op.drop m) 0<=i+1:=MF _ _ _ (fun x J=>by have:=(a1.o x (Q8 J)).1;omega) (by omega);have a8:Hid (∀w',GrV w' (.l g k 0) (op.drop m)->Calls prog 32 #[(.l g k 0)] w' fun e a0=>e= .returned (.q (Zs (op.drop m) 0:Nat))/\BL w' a0):=X1 fun w' hg=>O9 (op.drop m) _ w' (by rw[YC];omega) (fun x J=>by have:=(a1.o x (Q8 J)).1;omega) hg;generalize a4:Zs (op.drop m) 0=ov at *;clear a4 HU HC O a6 H;go_wp2_with fail;go_fit s.o;rintro e w2⟨rfl,a⟩;obtain⟨x0,x1,x2,x3,x4,x5⟩:=Zg a;go_wp2_with fail;go_fit(u.o _);rintro e w3⟨rfl,F⟩;have r:=a.trans (F.mono a.size);obtain⟨y0,y1,y2,y3,y4,y5⟩:=Zg r;go_wp2_with fail;go_fit(v.o _ (Q.o.below r));rintro e w4⟨rfl,M⟩;have y:=r.trans (M.mono r.size);obtain⟨z0,z1,z2,z3,z4,z5⟩:=Zg y;have U:BL w1 w4:=L.o.trans (y.mono L.o.size);have a7:Hid (GrV w4.drew (.l g k 0) (op.drop m)):=X1 ((Q.o.below y).below (X8 _ _).drew);have a9:Hid (w4.ownsRow w1.heap.size 79 6 (.l g m m) m (YP (op.take m))):=X1 (D8 (b0.o.alloc _) y);have a2:=X1 y;clear a F M r x0 x1 x2 x3 x4 x5 y0 y1 y2 y3 y4 y5 v u s y;go_wp2;go_region_law(first
           | (refine Db rfl 32 (.tmp 58) 73 rfl (.l g k 0) (.q (ov:Nat)) (by simp[Act.eval,Act.put]) f32 func32 (by kernel_rfl) (by kernel_rfl) _ (a8.o _ a7.o) ?_;intro w5 I;obtain⟨y0,y1,y2,y3,y4,y5⟩:=Zg (a2.o.trans ((UO I).mono a2.o.size)))
           | (refine PM rfl (.tmp 56) (.tmp 61) 73 rfl w1.heap.size 79 iG _ 6 56 underlying73 hG c2 c1 b9 rfl (by decide) (.l g m m) m (YP (op.take m)) (by simp[Act.eval]) ((D8 a9.o (UO I)).alloc _) ⟨w5.heap.size,0,none⟩ 1 1 (Gr.cells ⟨⟨B,j,E,dt,(k:Int)⟩,ov⟩) (by simp[Act.eval]) rfl (ML _ _ _) (OW _) (by unfold maxLen;omega) (by omega) (by have:=U.size;have:=I.size;simp at *;omega) ?_;intro v6 w6 X C W a3))
          all_goals
           have V:BL w1 w5:=U.trans ((UO I).mono U.size);have b2:BL w1 w6:=(V.alloc V.size _).grown C (by simp;have:=V.size;omega) (fun q e=>by simp[Value.ownBlock]at e;omega);clear C W a3 I;go_wp2;go_roundw
           case rel=>
            refine⟨i+1,op.take m++[⟨⟨B,j,E,dt,(k:Int)⟩,ov⟩],by omega,by go_num,?_,?_,?_,b2,K.o⟩
            .simp;omega
            .intro x J;rcases KC.1 J with J|J
             .have:=a1.o x (Ue J);exact⟨by omega,this.2⟩
             .obtain rfl:x=_:=V1.1 J;exact⟨b4,Z⟩
            .have b3:(op.take m++[(⟨⟨B,j,E,dt,(k:Int)⟩,ov⟩:Gr)]).length=m+1:=by rw[Xj,YO,Jv (by omega)];rfl
             have N:YP (op.take m++[(⟨⟨B,j,E,dt,(k:Int)⟩,ov⟩:Gr)])=YP (op.take m)++Gr.cells ⟨⟨B,j,E,dt,(k:Int)⟩,ov⟩:=by simp[YP]
             rw[b3,N];exact X
           case measure=>simp[intOf];omega
      .have Q:=X1 (((AA ho).below (bA (.cells #[.q B,.q j,.q E,.string dt,.q (k:Int)] 64))).MW (n:=k) (p:=m) (c:=cap) (by omega) c4 (by omega) (some ⟨g,m*6,none⟩) (.inl (by rw[Xu])));have b0:Hid (wr.ownsRow w1.heap.size 79 6 (.l g m cap) m (YP (op.take m))):=X1 (by rw[←S5];exact CT ho m (by omega));clear ho;have d9:m<=cap:=by omega
       have L:=X1 (hB.alloc hB.size (.cells #[.q B,.q j,.q E,.string dt,.q (k:Int)] 64));have HU:=X1 (R8 B j E (k:Int) dt (w.heap.size+1) (wr.z #[.q B,.q j,.q E,.string dt,.q (k:Int)] 64) Z (OD b8.o L.o));have HC:=X1 (MQ B j E (k:Int) dt);cases hp:Xr ⟨B,j,E,dt,(k:Int)⟩
       .have K:Hid (Kk ns=false):=X1 (by rw[HD.o,HE.o,H.o k m rfl hm,X6 (by unfold KQ;rw[hp];simp)];rfl);have s:=HU.o;rw[hp]at s
        replace s:=X1 s
        go_wp2_with fail;go_fit s.o;rintro e w2⟨rfl,a⟩;obtain⟨x0,x1,x2,x3,x4,x5⟩:=Zg a;go_wp2;go_ret;exact⟨Xn K.o.symm,A.o.trans ((L.o.trans (a.mono (L.o.size))).mono A.o.size)⟩
       .have s:=HU.o;rw[hp]at s
        replace s:=X1 s
        cases hc:K5 B (k:Int)
        .have K:Hid (Kk ns=false):=X1 (by rw[HD.o,HE.o,H.o k m rfl hm,X6 (by unfold KQ;rw[hp,hc];simp)];rfl);have u:=HC.o;rw[hc]at u
         replace u:=X1 u
         go_wp2_with fail;go_fit s.o;rintro e w2⟨rfl,a⟩;obtain⟨x0,x1,x2,x3,x4,x5⟩:=Zg a;go_wp2_with fail;go_fit(u.o _);rintro e w3⟨rfl,F⟩;have r:=a.trans (F.mono a.size);obtain⟨y0,y1,y2,y3,y4,y5⟩:=Zg r;go_wp2;go_ret;exact⟨Xn K.o.symm,A.o.trans ((L.o.trans (r.mono (L.o.size))).mono A.o.size)⟩
        .have u:=HC.o;rw[hc]at u
         replace u:=X1 u
         have O:Hid (∀w',GrV w' (.slice (some ⟨g,m*6,none⟩) k (cap-m)) (op.drop m)->Calls prog 31 #[.agg #[.q B,.q j,.q E,.string dt,.q (k:Int)],(.slice (some ⟨g,m*6,none⟩) k (cap-m))] w' fun e a0=>e= .returned (.bool (YE B (op.drop m)))/\BL w' a0):=X1 fun w' hg=>Oq B j E (k:Int) dt (op.drop m) _ w' (by rw[YC];omega) (fun h=>by rw[YC];have:=ME hc h;omega) (fun x J=>(a1.o x (Q8 J)).2) hg;cases hf:YE B (op.drop m)
         .have K:Hid (Kk ns=false):=X1 (by rw[HD.o,HE.o,H.o k m rfl hm,X6 (by unfold KQ;rw[hp,hc,hf];simp)];rfl);have v:=O.o;rw[hf]at v
          replace v:=X1 v
          go_wp2_with fail;go_fit s.o;rintro e w2⟨rfl,a⟩;obtain⟨x0,x1,x2,x3,x4,x5⟩:=Zg a;go_wp2_with fail;go_fit(u.o _);rintro e w3⟨rfl,F⟩;have r:=a.trans (F.mono a.size);obtain⟨y0,y1,y2,y3,y4,y5⟩:=Zg r;go_wp2_with fail;go_fit(v.o _ (Q.o.below r));rintro e w4⟨rfl,M⟩;have y:=r.trans (M.mono r.size);obtain⟨z0,z1,z2,z3,z4,z5⟩:=Zg y;go_wp2;go_ret;exact⟨Xn K.o.symm,A.o.trans ((L.o.trans (y.mono (L.o.size))).mono A.o.size)⟩
         .have K:Hid (ZS ns []=ZS (ns.drop (i+1)) (op.take m++[⟨⟨B,j,E,dt,(k:Int)⟩,Zs (op.drop m) 0⟩])):=X1 (by rw[HE.o,H.o k m rfl hm,Xa (by unfold KQ;rw[hp,hc,hf];rfl)]);have v:=O.o;rw[hf]at v
          replace v:=X1 v
          have b4:Zs (op.drop m) 0<=i+1:=MF _ _ _ (fun x J=>by have:=(a1.o x (Q8 J)).1;omega) (by omega);have a8:Hid (∀w',GrV w' (.slice (some ⟨g,m*6,none⟩) k (cap-m)) (op.drop m)->Calls prog 32 #[(.slice (some ⟨g,m*6,none⟩) k (cap-m))] w' fun e a0=>e= .returned (.q (Zs (op.drop m) 0:Nat))/\BL w' a0):=X1 fun w' hg=>O9 (op.drop m) _ w' (by rw[YC];omega) (fun x J=>by have:=(a1.o x (Q8 J)).1;omega) hg;generalize a4:Zs (op.drop m) 0=ov at *;clear a4 HU HC O a6 H;go_wp2_with fail;go_fit s.o;rintro e w2⟨rfl,a⟩;obtain⟨x0,x1,x2,x3,x4,x5⟩:=Zg a;go_wp2_with fail;go_fit(u.o _);rintro e w3⟨rfl,F⟩;have r:=a.trans (F.mono a.size);obtain⟨y0,y1,y2,y3,y4,y5⟩:=Zg r;go_wp2_with fail;go_fit(v.o _ (Q.o.below r));rintro e w4⟨rfl,M⟩;have y:=r.trans (M.mono r.size);obtain⟨z0,z1,z2,z3,z4,z5⟩:=Zg y;have U:BL w1 w4:=L.o.trans (y.mono L.o.size);have a7:Hid (GrV w4.drew (.slice (some ⟨g,m*6,none⟩) k (cap-m)) (op.drop m)):=X1 ((Q.o.below y).below (X8 _ _).drew);have a9:Hid (w4.ownsRow w1.heap.size 79 6 (.l g m cap) m (YP (op.take m))):=X1 (D8 (b0.o.alloc _) y);have a2:=X1 y;clear a F M r x0 x1 x2 x3 x4 x5 y0 y1 y2 y3 y4 y5 v u s y;go_wp2;go_region_law(first
           | (refine Db rfl 32 (.tmp 58) 73 rfl (.slice (some ⟨g,m*6,none⟩) k (cap-m)) (.q (ov:Nat)) (by simp[Act.eval,Act.put]) f32 func32 (by kernel_rfl) (by kernel_rfl) _ (a8.o _ a7.o) ?_;intro w5 I;obtain⟨y0,y1,y2,y3,y4,y5⟩:=Zg (a2.o.trans ((UO I).mono a2.o.size)))
           | (refine PM rfl (.tmp 56) (.tmp 61) 73 rfl w1.heap.size 79 iG _ 6 56 underlying73 hG c2 c1 b9 rfl (by decide) (.l g m cap) m (YP (op.take m)) (by simp[Act.eval]) ((D8 a9.o (UO I)).alloc _) ⟨w5.heap.size,0,none⟩ 1 1 (Gr.cells ⟨⟨B,j,E,dt,(k:Int)⟩,ov⟩) (by simp[Act.eval]) rfl (ML _ _ _) (OW _) (by unfold maxLen;omega) (by omega) (by have:=U.size;have:=I.size;simp at *;omega) ?_;intro v6 w6 X C W a3))
          all_goals
           have V:BL w1 w5:=U.trans ((UO I).mono U.size);have b2:BL w1 w6:=(V.alloc V.size _).grown C (by simp;have:=V.size;omega) (fun q e=>by simp[Value.ownBlock]at e;omega);clear C W a3 I;go_wp2;go_roundw
           case rel=>
            refine⟨i+1,op.take m++[⟨⟨B,j,E,dt,(k:Int)⟩,ov⟩],by omega,by go_num,?_,?_,?_,b2,K.o⟩
            .simp;omega
            .intro x J;rcases KC.1 J with J|J
             .have:=a1.o x (Ue J);exact⟨by omega,this.2⟩
             .obtain rfl:x=_:=V1.1 J;exact⟨b4,Z⟩
            .have b3:(op.take m++[(⟨⟨B,j,E,dt,(k:Int)⟩,ov⟩:Gr)]).length=m+1:=by rw[Xj,YO,Jv (by omega)];rfl
             have N:YP (op.take m++[(⟨⟨B,j,E,dt,(k:Int)⟩,ov⟩:Gr)])=YP (op.take m)++Gr.cells ⟨⟨B,j,E,dt,(k:Int)⟩,ov⟩:=by simp[YP]
             rw[b3,N];exact X
           case measure=>simp[intOf];omega
   .have K:Hid (Kk ns=UH (some op)):=X1 (by rw[HD.o,HE.o,YI (by omega)];rfl);have b5:=A.o.trans (hB.mono A.o.size);by_cases h1:op.length=1
    .rcases LK ho with⟨rfl,hz⟩|⟨g,cap,rfl⟩
     .omega
     .obtain⟨c0,_,_,_,_,c5⟩:=(AA ho).2 0 (by omega);obtain⟨x,rfl⟩:∃x,op=[x]:=List.length_eq_one_iff.1 h1;have b1:Hid (Kk ns=((x.nd.kind==24)&&decide ((x.high:Int)<=50))):=X1 (by rw[K.o];simp only[UH];congr 1;rw[decide_eq_decide];omega);simp only[UZ,Xu,Nat.zero_mul,Ds]at c0 c5⊢;cases hk:(x.nd.kind==24)
      .go_wp2;go_ret;exact⟨Xn (by rw[b1.o,hk];rfl),b5⟩
      .go_wp2;go_ret;exact⟨Xn (by rw[b1.o,hk];rfl),b5⟩
    .have b1:Hid (Kk ns=false):=X1 (by
      rw[K.o]
      match op,h1 with
      | [],_=>rfl
      | [x],h1=>exact absurd rfl h1
      | _::_::_,_=>rfl)
     have h2:((op.length:Int)==1)=false:=by simp;omega
     rcases LK ho with⟨rfl,hz⟩|⟨g,cap,rfl⟩
     .go_wp2;go_ret;exact⟨Xn b1.o.symm,b5⟩
     .go_wp2;go_ret;exact⟨Xn b1.o.symm,b5⟩
