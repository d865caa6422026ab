import Derived.Test.YtkoiikmhfaebnaaGreatDoorB28
import Derived.Test.YtkoiikmhfaebnaaGreatDoorB04
set_option maxHeartbeats 2000000
namespace Go.Proofs.YtkoiikmhfaebnaaGreatDoor.Vl
open Tryz Go.RowKit
abbrev VA(p:Int):Decidable (Xp p):=by unfold Xp;exact inferInstance
theorem fits_bool(x y:Int)(m:Xp x)(n:Xp y)(d:y≠0):@decide (Xp (x*y)) (VA (x*y))=((wrap64 ((wrap64 (x*y)).tdiv y)==x)&&!((x == -1)&&(y == -9223372036854775808))&&!((y == -1)&&(x == -9223372036854775808))):=by
 have g:=Eb x y m n d;by_cases c:Xp (x*y)
 .obtain⟨j,k⟩:=g.2 c;have l:¬(x= -1/\y= -9223372036854775808):=by
   rintro⟨rfl,rfl⟩;unfold Xp at c;omega
  rw[@YJ _ (VA _) c,j];symm;simp only[XD,OE,beq_self_eq_true,Le];constructor
  .cases h:(x == -1&&y == -9223372036854775808)with
   | false=>rfl
   | true=>simp at h;exact(l h).elim
  .cases h:(y == -1&&x == -9223372036854775808)with
   | false=>rfl
   | true=>simp at h;exact(k h).elim
 .rw[@Yb _ (VA _) c];symm;cases h:((wrap64 ((wrap64 (x*y)).tdiv y)==x)&&!((x == -1)&&(y == -9223372036854775808))&&!((y == -1)&&(x == -9223372036854775808)))with
  | false=>rfl
  | true=>
   exfalso;simp at h;exact c (g.1 ⟨h.1.1,fun q=>h.2.elim (fun a=>a q.1) (fun a=>a q.2)⟩)
theorem Y3w(x y:Int)(w:World)(J:Xp x)(K:Xp y):Calls prog 191 #[.int .i64 x,.int .i64 y] w fun e w'=>(∃z ok,e= .returned (.tuple #[.int .i64 z,.bool ok])/\ok=(XL (x*y)).isSome/\(ok=true->z=x*y))/\w'=w:=by
 by_cases q:x=0
 .subst q;go_enter func191,ntmps191;go_wp2;go_ret2;exact⟨⟨0,true,rfl,by simp[XL],by simp⟩,rfl⟩
 .by_cases s:y=0
  .subst s;have r:(x==0)=false:=by simpa using q
   go_enter func191,ntmps191;go_wp2;go_ret2;exact⟨⟨0,true,rfl,by simp[XL],by simp⟩,rfl⟩
  .have r:(x==0)=false:=by simpa using q
   have F:(y==0)=false:=by simpa using s
   have c:=fits_bool x y J K s;have d:Xp (x*y)->wrap64 (x*y)=x*y:=fun h=>Jn h;obtain⟨z,v⟩:∃z,wrap64 (x*y)=z:=⟨_,rfl⟩;rw[v]at c d;obtain⟨u,I⟩:∃u,wrap64 (z.tdiv y)=u:=⟨_,rfl⟩;rw[I]at c;have j:Hid (@decide (Xp (x*y)) (VA (x*y))=((u==x)&&!((x == -1)&&(y == -9223372036854775808))&&!((y == -1)&&(x == -9223372036854775808)))):=c;have l:Hid (Xp (x*y)->z=x*y):=d;have m:@decide (Xp (x*y)) (VA (x*y))=(XL (x*y)).isSome:=by
    by_cases h:Xp (x*y)
    .rw[@YJ _ (VA _) h,show XL (x*y)=some (x*y)from X3 h];rfl
    .rw[@Yb _ (VA _) h,show XL (x*y)=none from X2 h];rfl
   have k:Hid (@decide (Xp (x*y)) (VA (x*y))=(XL (x*y)).isSome):=m;clear m;clear c d;generalize(XL (x*y)).isSome=t at *;have fin:∀ok:Bool,((u==x)&&!((x == -1)&&(y == -9223372036854775808))&&!((y == -1)&&(x == -9223372036854775808)))=ok->ok=t/\(ok=true->z=x*y):=fun ok h=>by
    rw[←j.o]at h;exact⟨h.symm.trans k.o,fun H=>l.o (by rw[H]at h;exact @QR _ (VA _) h)⟩
   have g:Hid (∀ok:Bool,((u==x)&&!((x == -1)&&(y == -9223372036854775808))&&!((y == -1)&&(x == -9223372036854775808)))=ok->ok=t/\(ok=true->z=x*y)):=fin;clear fin j l k;cases A:(u==x);all_goals cases B:(x == -1)
   all_goals cases C:(y == -9223372036854775808)
   all_goals cases D:(y == -1)
   all_goals cases E:(x == -9223372036854775808)
   all_goals
    have n:=g.o _ rfl;rw[A,B,C,D,E]at n;have a:Hid (_/\_):=n;clear n g;go_enter func191,ntmps191;go_wp2;go_ret2
    first
     | exact⟨⟨z,_,rfl,a.o.1,a.o.2⟩,rfl⟩
     | exact⟨⟨wrap64 (x*y),_,rfl,a.o.1,fun h=>v.trans (a.o.2 h)⟩,rfl⟩
def Ll:List UInt8:=[100,105,118,105,100,101]
def Ux:List UInt8:=[114,97,110,103,101]
def Yv(op x y:Int):Option Int × List UInt8:=
 if op=11 then(XL (x-y),if(XL (x-y)).isSome then[]else Ux)
 else if op=12 then(XL (x*y),if(XL (x*y)).isSome then[]else Ux)
 else if y=0 then(none,Ll)
 else if op=13 then(if x= -9223372036854775808/\y= -1 then(none,Ux)else(some (Jw x y),[]))
 else(some (Jx x y),[])
def GW(w:World)(r:Option Int × List UInt8)(e:Ending)(w':World):Prop:=Below w.heap.size w w'/\match r with
 | (some n,_)=>∃g,w.heap.size<=g/\e= .returned (.tuple #[.agg #[.slice (some ⟨g,0,none⟩) 1 1],.string ⟨#[]⟩])/\Kr w' g 0 [⟨3,n,⟨#[]⟩,0⟩]
 | (none,s)=>e= .returned (.tuple #[.agg #[.slice none 0 0],.string ⟨s.toArray⟩])
theorem IX(s:ByteArray)(w:World):Calls prog 127 #[.string s] w fun e w'=>e= .returned (.tuple #[.agg #[.slice none 0 0],.string s])/\Below w.heap.size w w':=by
 go_enter func127,ntmps127;go_wp2;refine X7 (v:= .tuple #[.agg #[.slice none 0 0],.string s]) (by simp[results,results127,go_sem]) rfl ⟨rfl,?_⟩;exact bA _
theorem Xde(x y:Int)(w:World)(C:Xp x)(D:Xp y):Calls prog 131 #[.int .i64 11,.int .i64 x,.int .i64 y] w (GW w (Yv 11 x y)):=by
 unfold Xp at C D;have t:=X1 (IX ⟨#[114,97,110,103,101]⟩);by_cases r:-9223372036854775808<=x-y/\x-y<=9223372036854775807
 .have k:Hid (Yv 11 x y=(some (x-y),[])):=(by unfold Yv;rw[X3 rfl,show XL (x-y)=some (x-y)from X3 r];rfl);have s:=X1 (fun w'=>QO (x-y) w');have E:wrap64 (x-y)=x-y:=by unfold wrap64;omega
  by_cases z:y<0;focus
   have l:wrap64 (9223372036854775807+y)=9223372036854775807+y:=by unfold wrap64;omega
   have m:¬9223372036854775807+y<x:=by omega
   have q:¬0<y:=by omega
  rotate_left;focus
   by_cases q:0<y;focus
    have l:wrap64 (-9223372036854775808+y)= -9223372036854775808+y:=by unfold wrap64;omega
    have m:¬x < -9223372036854775808+y:=by omega
   rotate_left
   skip
  all_goals
   go_enter func131,ntmps131;go_wp2_with fail;refine(s.o _).mono ?_;rintro e w1⟨g,B,rfl,A,a⟩;simp only[Xb]at B;have c:=KX w (.slice none 0 0) 118;have d:BL w (w.alloc (.cells #[.slice none 0 0] 118)):=bA _;have j:w1.cell? ⟨w.heap.size,0,none⟩=some (.slice none 0 0):=(a.cell (p:=⟨w.heap.size,0,none⟩) (by simp)).trans c.1;have u:w1.frozen? ⟨w.heap.size,0,none⟩=false:=(a.frozen (p:=⟨w.heap.size,0,none⟩) (by simp)).trans c.2;have n:=d.trans (a.mono d.size);clear a d c;go_wp2;refine X7 (v:= .tuple #[.agg #[.slice (some ⟨g,0,none⟩) 1 1],.string ⟨#[]⟩]) (by simp[results,results131,go_sem,j]) rfl ?_;rw[k.o];exact⟨n.setCell (p:=⟨w.heap.size,0,none⟩) (X4 _) _,g,by omega,rfl,Vs A _ (by simp;omega) _⟩
 .have k:Hid (Yv 11 x y=(none,Ux)):=(by unfold Yv;rw[X3 rfl,show XL (x-y)=none from X2 r];rfl);by_cases z:y<0;focus
   have l:wrap64 (9223372036854775807+y)=9223372036854775807+y:=by unfold wrap64;omega
   have m:9223372036854775807+y<x:=by omega
  rotate_left;focus
   have q:0<y:=by omega
   have l:wrap64 (-9223372036854775808+y)= -9223372036854775808+y:=by unfold wrap64;omega
   have m:x < -9223372036854775808+y:=by omega
  all_goals
   go_enter func131,ntmps131;go_wp2_with fail;refine(t.o _).mono ?_;rintro e w1⟨rfl,a⟩;have c:=KX w (.slice none 0 0) 118;have d:BL w (w.alloc (.cells #[.slice none 0 0] 118)):=bA _;have j:w1.cell? ⟨w.heap.size,0,none⟩=some (.slice none 0 0):=(a.cell (p:=⟨w.heap.size,0,none⟩) (by simp)).trans c.1;have u:w1.frozen? ⟨w.heap.size,0,none⟩=false:=(a.frozen (p:=⟨w.heap.size,0,none⟩) (by simp)).trans c.2;have n:=d.trans (a.mono d.size);clear a d c;go_wp2;refine X7 (v:= .tuple #[.agg #[.slice none 0 0],.string ⟨#[114,97,110,103,101]⟩]) (by simp[results,results131,go_sem,j]) rfl ?_;rw[k.o];exact⟨n.setCell (p:=⟨w.heap.size,0,none⟩) (X4 _) _,rfl⟩
theorem Xdc(x y:Int)(w:World)(D:Xp x)(E:Xp y):Calls prog 131 #[.int .i64 12,.int .i64 x,.int .i64 y] w (GW w (Yv 12 x y)):=by
 have u:=X1 (IX ⟨#[114,97,110,103,101]⟩);have m:=X1 (fun w'=>Y3w x y w' D E);have t:=X1 (fun w'=>QO (x*y) w');have r:Hid (Yv 12 x y=(XL (x*y),if(XL (x*y)).isSome then[]else Ux)):=(by unfold Yv;rw[X2 (by decide),X3 rfl];rfl);cases c:XL (x*y)with
 | some p=>
  obtain rfl:p=x*y:=by unfold XL at c;split at c<;>cases c;rfl
  have n:Hid (Yv 12 x y=(some (x*y),[])):=(by rw[r.o,c];rfl);rw[c]at m
  .go_enter func131,ntmps131;go_wp2_with fail;refine(m.o _).mono ?_;rintro e F⟨⟨z,ok,rfl,j,s⟩,rfl⟩;obtain rfl:ok=true:=j;obtain rfl:=s rfl;go_wp2_with fail;refine(t.o _).mono ?_;rintro e w1⟨g,C,rfl,B,a⟩;simp only[Xb]at C;have d:=KX w (.slice none 0 0) 118;have k:BL w (w.alloc (.cells #[.slice none 0 0] 118)):=bA _;have l:w1.cell? ⟨w.heap.size,0,none⟩=some (.slice none 0 0):=(a.cell (p:=⟨w.heap.size,0,none⟩) (by simp)).trans d.1;have A:w1.frozen? ⟨w.heap.size,0,none⟩=false:=(a.frozen (p:=⟨w.heap.size,0,none⟩) (by simp)).trans d.2;have q:=k.trans (a.mono k.size);clear a k d;go_wp2;refine X7 (v:= .tuple #[.agg #[.slice (some ⟨g,0,none⟩) 1 1],.string ⟨#[]⟩]) (by simp[results,results131,go_sem,l]) rfl ?_;rw[n.o];exact⟨q.setCell (p:=⟨w.heap.size,0,none⟩) (X4 _) _,g,by omega,rfl,Vs B _ (by simp;omega) _⟩
 | none=>
  have n:Hid (Yv 12 x y=(none,Ux)):=(by rw[r.o,c];rfl);rw[c]at m
  .go_enter func131,ntmps131;go_wp2_with fail;refine(m.o _).mono ?_;rintro e F⟨⟨z,ok,rfl,j,s⟩,rfl⟩;obtain rfl:ok=false:=j;go_wp2_with fail;refine(u.o _).mono ?_;rintro e w1⟨rfl,a⟩;have d:=KX w (.slice none 0 0) 118;have k:BL w (w.alloc (.cells #[.slice none 0 0] 118)):=bA _;have l:w1.cell? ⟨w.heap.size,0,none⟩=some (.slice none 0 0):=(a.cell (p:=⟨w.heap.size,0,none⟩) (by simp)).trans d.1;have A:w1.frozen? ⟨w.heap.size,0,none⟩=false:=(a.frozen (p:=⟨w.heap.size,0,none⟩) (by simp)).trans d.2;have q:=k.trans (a.mono k.size);clear a k d;go_wp2;refine X7 (v:= .tuple #[.agg #[.slice none 0 0],.string ⟨#[114,97,110,103,101]⟩]) (by simp[results,results131,go_sem,l]) rfl ?_;rw[n.o];exact⟨q.setCell (p:=⟨w.heap.size,0,none⟩) (X4 _) _,rfl⟩
theorem Xdb(x y:Int)(w:World)(X:Xp x)(hy:Xp y):Calls prog 131 #[.int .i64 13,.int .i64 x,.int .i64 y] w (GW w (Yv 13 x y)):=by
 by_cases s:y=0
 .subst s;have L:=X1 (IX ⟨#[100,105,118,105,100,101]⟩);have m:Hid (Yv 13 x 0=(none,Ll)):=(by unfold Yv;rw[X2 (by decide),X2 (by decide),X3 rfl];rfl)
  .skip
   go_enter func131,ntmps131;go_wp2_with fail;refine(L.o _).mono ?_;rintro e w1⟨rfl,a⟩;have j:=KX w (.slice none 0 0) 118;have c:BL w (w.alloc (.cells #[.slice none 0 0] 118)):=bA _;have k:w1.cell? ⟨w.heap.size,0,none⟩=some (.slice none 0 0):=(a.cell (p:=⟨w.heap.size,0,none⟩) (by simp)).trans j.1;have M:w1.frozen? ⟨w.heap.size,0,none⟩=false:=(a.frozen (p:=⟨w.heap.size,0,none⟩) (by simp)).trans j.2;have C:=c.trans (a.mono c.size);clear a c j;go_wp2;refine X7 (v:= .tuple #[.agg #[.slice none 0 0],.string ⟨#[100,105,118,105,100,101]⟩]) (by simp[results,results131,go_sem,k]) rfl ?_;rw[m.o];exact⟨C.setCell (p:=⟨w.heap.size,0,none⟩) (X4 _) _,rfl⟩
 .have a3:(y==0)=false:=by simpa using s
  by_cases A:y= -1
  .subst A;by_cases E:x= -9223372036854775808
   .subst E;have L:=X1 (IX ⟨#[114,97,110,103,101]⟩);have m:Hid (Yv 13 (-9223372036854775808) (-1)=(none,Ux)):=(show Yv 13 (-9223372036854775808) (-1)=(none,Ux)from by decide)
    go_enter func131,ntmps131;go_wp2_with fail;refine(L.o _).mono ?_;rintro e w1⟨rfl,a⟩;have j:=KX w (.slice none 0 0) 118;have c:BL w (w.alloc (.cells #[.slice none 0 0] 118)):=bA _;have k:w1.cell? ⟨w.heap.size,0,none⟩=some (.slice none 0 0):=(a.cell (p:=⟨w.heap.size,0,none⟩) (by simp)).trans j.1;have M:w1.frozen? ⟨w.heap.size,0,none⟩=false:=(a.frozen (p:=⟨w.heap.size,0,none⟩) (by simp)).trans j.2;have C:=c.trans (a.mono c.size);clear a c j;go_wp2;refine X7 (v:= .tuple #[.agg #[.slice none 0 0],.string ⟨#[114,97,110,103,101]⟩]) (by simp[results,results131,go_sem,k]) rfl ?_;rw[m.o];exact⟨C.setCell (p:=⟨w.heap.size,0,none⟩) (X4 _) _,rfl⟩
   .have a2:(x == -9223372036854775808)=false:=by simpa using E
    have m:Hid (Yv 13 x (-1)=(some (-x),[])):=(by unfold Yv;rw[X2 (by decide),X2 (by decide),X2 (by decide),X3 rfl,X2 (fun h=>E h.1)];unfold Jw Jf;rw[show x.tmod (-1)=0 from by simp,Int.tdiv_neg,OO];rfl)
    have B:=X1 (fun w'=>QO (-x) w');have hw:wrap64 (-x)= -x:=by unfold Xp at X;unfold wrap64;omega
    go_enter func131,ntmps131;go_wp2_with fail;refine(B.o _).mono ?_;rintro e w1⟨g,Q,rfl,N,a⟩;simp only[Xb]at Q;have j:=KX w (.slice none 0 0) 118;have c:BL w (w.alloc (.cells #[.slice none 0 0] 118)):=bA _;have k:w1.cell? ⟨w.heap.size,0,none⟩=some (.slice none 0 0):=(a.cell (p:=⟨w.heap.size,0,none⟩) (by simp)).trans j.1;have M:w1.frozen? ⟨w.heap.size,0,none⟩=false:=(a.frozen (p:=⟨w.heap.size,0,none⟩) (by simp)).trans j.2;have C:=c.trans (a.mono c.size);clear a c j;go_wp2;refine X7 (v:= .tuple #[.agg #[.slice (some ⟨g,0,none⟩) 1 1],.string ⟨#[]⟩]) (by simp[results,results131,go_sem,k]) rfl ?_;rw[m.o];exact⟨C.setCell (p:=⟨w.heap.size,0,none⟩) (X4 _) _,g,by omega,rfl,Vs N _ (by simp;omega) _⟩
  .have Y:(y == -1)=false:=by simpa using A
   have W:=Oi x y X s A;have S:wrap64 (x.tdiv y)=x.tdiv y:=Jn W;have I:=Ld x y s;have D:=Sq x y;have P:=OM x y;have n:x.tmod y≠0->wrap64 (x.tdiv y-1)=x.tdiv y-1:=fun F=>by
    refine Jn ?_;have hne:y.natAbs≠1:=fun h1=>by omega
    have h2:=ON x y;have h3:x.natAbs.div y.natAbs<=x.natAbs / 2:=P6 (by omega) (by omega);unfold Xp at *;omega
   have H:Hid (Yv 13 x y=(some (Jw x y),[])):=(by unfold Yv;rw[X2 (by decide),X2 (by decide),X2 s,X3 rfl,X2 (fun h=>A h.2)];rfl);have d:Jw x y=if Jf x y then x.tdiv y-1 else x.tdiv y:=rfl;have J:Jf x y=((x.tmod y !=0)&&(decide (x.tmod y<0)!=decide (y<0))):=by
    unfold Jf;by_cases F:x.tmod y=0
    .rw[F];rfl
    .have:decide (x<0)=decide (x.tmod y<0):=by
      rw[PM];constructor
      .intro h;have:=D.1 h;omega
      .intro h;exact Dv fun Z=>by have:=D.2 Z;omega
     rw[this]
   rw[J]at d;obtain⟨q,c⟩:∃q,x.tdiv y=q:=⟨_,rfl⟩;obtain⟨r,K⟩:∃r,x.tmod y=r:=⟨_,rfl⟩;rw[c]at S n;rw[K]at n I;rw[K]at d;rw[c]at d;have a0:Xp r:=by unfold Xp at *;omega
   clear P D J W;have l:Hid (Jw x y=_):=d;clear d;by_cases F:r=0;focus
    subst F;have m:Hid (Yv 13 x y=(some q,[])):=(by rw[H.o,l.o];rfl);have B:=X1 (fun w'=>QO q w');clear n I
   rotate_left;focus
    have z:(r !=0)=true:=by simpa using F
    have a1:=n F;clear n;by_cases u:r<0;focus
     by_cases t:y<0;focus
      skip
      have m:Hid (Yv 13 x y=(some (q),[])):=(by rw[H.o,l.o,z,YJ u,YJ t];rfl);have B:=X1 (fun w'=>QO (q) w')
     rotate_left;focus
      skip
      have m:Hid (Yv 13 x y=(some (q-1),[])):=(by rw[H.o,l.o,z,YJ u,Yb t];rfl);have B:=X1 (fun w'=>QO (q-1) w');have V:wrap64 (r+y)=r+y:=Jn (by unfold Xp at *;omega)
    rotate_left 2;focus
     by_cases t:y<0;focus
      skip
      have m:Hid (Yv 13 x y=(some (q-1),[])):=(by rw[H.o,l.o,z,Yb u,YJ t];rfl);have B:=X1 (fun w'=>QO (q-1) w');have V:wrap64 (r+y)=r+y:=Jn (by unfold Xp at *;omega)
     rotate_left;focus
      skip
      have m:Hid (Yv 13 x y=(some (q),[])):=(by rw[H.o,l.o,z,Yb u,Yb t];rfl);have B:=X1 (fun w'=>QO (q) w')
   all_goals
    go_enter func131,ntmps131;go_wp2_with fail;refine(B.o _).mono ?_;rintro e w1⟨g,Q,rfl,N,a⟩;simp only[Xb]at Q;have j:=KX w (.slice none 0 0) 118;have c:BL w (w.alloc (.cells #[.slice none 0 0] 118)):=bA _;have k:w1.cell? ⟨w.heap.size,0,none⟩=some (.slice none 0 0):=(a.cell (p:=⟨w.heap.size,0,none⟩) (by simp)).trans j.1;have M:w1.frozen? ⟨w.heap.size,0,none⟩=false:=(a.frozen (p:=⟨w.heap.size,0,none⟩) (by simp)).trans j.2;have C:=c.trans (a.mono c.size);clear a c j;go_wp2;refine X7 (v:= .tuple #[.agg #[.slice (some ⟨g,0,none⟩) 1 1],.string ⟨#[]⟩]) (by simp[results,results131,go_sem,k]) rfl ?_;rw[m.o];exact⟨C.setCell (p:=⟨w.heap.size,0,none⟩) (X4 _) _,g,by omega,rfl,Vs N _ (by simp;omega) _⟩
theorem Xdd(x y:Int)(w:World)(hx:Xp x)(hy:Xp y):Calls prog 131 #[.int .i64 14,.int .i64 x,.int .i64 y] w (GW w (Yv 14 x y)):=by
 by_cases k:y=0
 .subst k;have Q:=X1 (IX ⟨#[100,105,118,105,100,101]⟩);have t:Hid (Yv 14 x 0=(none,Ll)):=(by unfold Yv;rw[X2 (by decide),X2 (by decide),X3 rfl];rfl)
  .skip
   go_enter func131,ntmps131;go_wp2_with fail;refine(Q.o _).mono ?_;rintro e w1⟨rfl,a⟩;have u:=KX w (.slice none 0 0) 118;have m:BL w (w.alloc (.cells #[.slice none 0 0] 118)):=bA _;have A:w1.cell? ⟨w.heap.size,0,none⟩=some (.slice none 0 0):=(a.cell (p:=⟨w.heap.size,0,none⟩) (by simp)).trans u.1;have S:w1.frozen? ⟨w.heap.size,0,none⟩=false:=(a.frozen (p:=⟨w.heap.size,0,none⟩) (by simp)).trans u.2;have J:=m.trans (a.mono m.size);clear a m u;go_wp2;refine X7 (v:= .tuple #[.agg #[.slice none 0 0],.string ⟨#[100,105,118,105,100,101]⟩]) (by simp[results,results131,go_sem,A]) rfl ?_;rw[t.o];exact⟨J.setCell (p:=⟨w.heap.size,0,none⟩) (X4 _) _,rfl⟩
 .have a0:(y==0)=false:=by simpa using k
  by_cases B:y= -1;focus
   subst B;have t:Hid (Yv 14 x (-1)=(some 0,[])):=(by unfold Yv;rw[X2 (by decide),X2 (by decide),X2 (by decide),X2 (by decide)];unfold Jx Jf;rw[show x.tmod (-1)=0 from by simp];rfl)
   have C:=X1 (fun w'=>QO 0 w')
  rotate_left;focus
   have P:(y == -1)=false:=by simpa using B
   have N:=Oi x y hx k B;have L:wrap64 (x.tdiv y)=x.tdiv y:=Jn N;have F:=Ld x y k;have z:=Sq x y;have K:=OM x y;have j:x.tmod y≠0->wrap64 (x.tdiv y-1)=x.tdiv y-1:=fun D=>by
    refine Jn ?_;have hne:y.natAbs≠1:=fun h1=>by omega
    have h2:=ON x y;have h3:x.natAbs.div y.natAbs<=x.natAbs / 2:=P6 (by omega) (by omega);unfold Xp at *;omega
   have E:Hid (Yv 14 x y=(some (Jx x y),[])):=(by unfold Yv;rw[X2 (by decide),X2 (by decide),X2 k,X2 (by decide)];rfl);have c:Jx x y=if Jf x y then x.tmod y+y else x.tmod y:=rfl;have H:Jf x y=((x.tmod y !=0)&&(decide (x.tmod y<0)!=decide (y<0))):=by
    unfold Jf;by_cases D:x.tmod y=0
    .rw[D];rfl
    .have:decide (x<0)=decide (x.tmod y<0):=by
      rw[PM];constructor
      .intro h;have:=z.1 h;omega
      .intro h;exact Dv fun V=>by have:=z.2 V;omega
     rw[this]
   rw[H]at c;obtain⟨q,m⟩:∃q,x.tdiv y=q:=⟨_,rfl⟩;obtain⟨r,I⟩:∃r,x.tmod y=r:=⟨_,rfl⟩;rw[m]at L j;rw[I]at j F;rw[I]at c
   skip
   have Y:Xp r:=by unfold Xp at *;omega
   clear K z H N;have d:Hid (Jx x y=_):=c;clear c;by_cases D:r=0;focus
    subst D;have t:Hid (Yv 14 x y=(some 0,[])):=(by rw[E.o,d.o];rfl);have C:=X1 (fun w'=>QO 0 w');clear j F
   rotate_left;focus
    have s:(r !=0)=true:=by simpa using D
    have Z:=j D;clear j;by_cases n:r<0;focus
     by_cases l:y<0;focus
      skip
      have t:Hid (Yv 14 x y=(some (r),[])):=(by rw[E.o,d.o,s,YJ n,YJ l];rfl);have C:=X1 (fun w'=>QO (r) w')
     rotate_left;focus
      skip
      have t:Hid (Yv 14 x y=(some (r+y),[])):=(by rw[E.o,d.o,s,YJ n,Yb l];rfl);have C:=X1 (fun w'=>QO (r+y) w');have M:wrap64 (r+y)=r+y:=Jn (by unfold Xp at *;omega)
    rotate_left 2;focus
     by_cases l:y<0;focus
      skip
      have t:Hid (Yv 14 x y=(some (r+y),[])):=(by rw[E.o,d.o,s,Yb n,YJ l];rfl);have C:=X1 (fun w'=>QO (r+y) w');have M:wrap64 (r+y)=r+y:=Jn (by unfold Xp at *;omega)
     rotate_left;focus
      skip
      have t:Hid (Yv 14 x y=(some (r),[])):=(by rw[E.o,d.o,s,Yb n,Yb l];rfl);have C:=X1 (fun w'=>QO (r) w')
  all_goals
   go_enter func131,ntmps131;go_wp2_with fail;refine(C.o _).mono ?_;rintro e w1⟨g,X,rfl,W,a⟩;simp only[Xb]at X;have u:=KX w (.slice none 0 0) 118;have m:BL w (w.alloc (.cells #[.slice none 0 0] 118)):=bA _;have A:w1.cell? ⟨w.heap.size,0,none⟩=some (.slice none 0 0):=(a.cell (p:=⟨w.heap.size,0,none⟩) (by simp)).trans u.1;have S:w1.frozen? ⟨w.heap.size,0,none⟩=false:=(a.frozen (p:=⟨w.heap.size,0,none⟩) (by simp)).trans u.2;have J:=m.trans (a.mono m.size);clear a m u;go_wp2;refine X7 (v:= .tuple #[.agg #[.slice (some ⟨g,0,none⟩) 1 1],.string ⟨#[]⟩]) (by simp[results,results131,go_sem,A]) rfl ?_;rw[t.o];exact⟨J.setCell (p:=⟨w.heap.size,0,none⟩) (X4 _) _,g,by omega,rfl,Vs W _ (by simp;omega) _⟩
end Go.Proofs.YtkoiikmhfaebnaaGreatDoor.Vl
