import Derived.Test.YtaeafhenpjnhiaaGreatDoorE35
import Derived.Shelf.Strconv.Clone
import Derived.Shelf.LaysC
import Derived.Shelf.Strconv.ParseIntPublic10
import Derived.Lib.AtoiErrMem
set_option maxHeartbeats 4000000
set_option maxRecDepth 100000
namespace Go.Proofs.YtaeafhenpjnhiaaGreatDoor
open Tryz Go.RowKit
def Ip.Z5(x:Sc.T)(o:Nat):Prop:=(1<=o/\o<=14/\Ip.sign x (Yd o)=true)\/(o=0/\∀k,1<=k->k<=14->Ip.sign x (Yd k)=false)
def Ip.Zy(w:World):Prop:=∀o,o<=14->w.cell? ⟨0,o*2,none⟩=some (.string ⟨(Yd o).toArray⟩)/\w.cell? ⟨0,o*2+1,none⟩=some (.q (Xi o:Nat))
theorem Xck(x:Sc.T)(w:World)(V:0<w.heap.size)(I:Ip.Zy w): Calls prog 126 #[XB x] w fun e w'=>∃o:Nat,e= .returned (.q o)/\Ip.Z5 x o/\Below w.heap.size w w':=by
 have N:=X1 I;have m:=X1 (QF w (.cells #[.q x.kind,.string ⟨x.text.toArray⟩,.q x.n,.q x.place] 101));have s:=X1 (heap_alloc_new w (.cells #[.q x.kind,.string ⟨x.text.toArray⟩,.q x.n,.q x.place] 101));clear I;unfold XB;go_enter func126,ntmps126;go_wp2_with fail;go_loopw[3] (fun v wr=>∃o:Nat,1<=o/\o<=15/\v= .q o/\(∀k,1<=k->k<o->Ip.sign x (Yd k)=false)/\BL w wr/\w.heap.size<wr.heap.size/\wr.heap[w.heap.size]?=some (.cells #[.q x.kind,.string ⟨x.text.toArray⟩,.q x.n,.q x.place] 101 (0,0))) (fun v _=>15-(intOf v).toNat)
 case atStart=>exact⟨1,X5 _,by decide,rfl,fun k A H=>by omega,m.o,by simp,s.o⟩
 case round=>
  obtain⟨o,E,U,rfl,y,J,g,M⟩:=hrel;haveI hne:Nonempty (KB wr):=⟨⟨_,X8 _ _⟩⟩;have r:=X1 y;have j:=X1 J;have F:=X1 M;clear y J M m s;by_cases u:o<=14
  .have C:(o:Int)<=14:=by omega
   have K:(o:Int)<15:=by omega
   have S:(0:Int)<=(o:Int):=by omega
   have Q:∀q:KB wr,q.w.cell? ⟨0,o*2,none⟩=some (.string ⟨(Yd o).toArray⟩):=fun q=>(q.below.cell (p:=⟨0,o*2,none⟩) (show 0<wr.heap.size by omega)).trans ((j.o.cell (p:=⟨0,o*2,none⟩) (show 0<w.heap.size by omega)).trans (N.o o u).1);have a:∀q:KB wr,q.w.heap[w.heap.size]?=some (.cells #[.q x.kind,.string ⟨x.text.toArray⟩,.q x.n,.q x.place] 101 (0,0)):=fun q=>(q.below.block _ g).trans F.o;have W:∀q:KB wr,q.w.cell? ⟨w.heap.size,0,none⟩=some (.q x.kind):=fun q=>by simp only[World.cell?,a q];rfl
   have X:∀q:KB wr,q.w.cell? ⟨w.heap.size,1,none⟩=some (.string ⟨x.text.toArray⟩):=fun q=>by simp only[World.cell?,a q];rfl
   have Z:∀q:KB wr,q.w.cell? ⟨w.heap.size,2,none⟩=some (.q x.n):=fun q=>by simp only[World.cell?,a q];rfl
   have x3:∀q:KB wr,q.w.cell? ⟨w.heap.size,3,none⟩=some (.q x.place):=fun q=>by simp only[World.cell?,a q];rfl
   have O:Hid (∀B,BL wr B->CB 104 #[.agg #[.q x.kind,.string ⟨x.text.toArray⟩,.q x.n,.q x.place],.string ⟨(Yd o).toArray⟩] B (.bool (Ip.sign x (Yd o)))):=X1 (fun B _=>by
    have:=Lg x ⟨(Yd o).toArray⟩ B;unfold XB at this;simpa using this)
   clear a;go_wp2_with fail;refine Z2 (KB.w (w:=wr)) (by kernel_rfl) (by kernel_rfl) ⟨⟨_,below_drewN (X8 _ _) _⟩,rfl⟩ ?_;repeat(go_big_quiet_step ((go_at_call 104;exact Kw O.o _)))
   refine wpQuiet_nil ?_;rintro _⟨q,rfl⟩;have d:=X1 q.below;cases L:Ip.sign x (Yd o)
   .go_wp2;go_roundw
    case rel=>exact⟨o+1,by omega,by omega,by go_num,fun k A H=>if e:k=o then by rw[e];exact L else r.o k A (by omega),j.o.trans (d.o.mono j.o.size),XH g d.o.size,(d.o.block _ g).trans F.o⟩
    case measure=>simp[intOf];omega
   .go_wp2;go_ret;exact⟨o,rfl,.inl ⟨E,u,L⟩,j.o.trans (d.o.mono j.o.size)⟩
  .have C:¬(o:Int)<=14:=by omega
   go_wp2;go_ret;exact⟨0,rfl,.inr ⟨rfl,fun k A H=>r.o k A (by omega)⟩,j.o⟩
theorem MZ(r:Nat)(w:World)(a:r<=100):CS 127 #[.q r] w (.q (if r=4 then 5 else r:Nat)):=by
 by_cases h:r=4
 .subst h;go_enter func127,ntmps127;go_wp2;go_ret;exact⟨rfl,rfl⟩
 .have hi:¬(r:Int)=4:=by omega
  rw[X6 h];go_enter func127,ntmps127;go_wp2;go_ret;exact⟨rfl,rfl⟩
end Go.Proofs.YtaeafhenpjnhiaaGreatDoor
namespace Go.Proofs
open Go.Shelf
def Tryz.X8q:Go.Shelf.Ren:=⟨fun|316=>154|n=>n,fun|9=>9|3=>3|4=>4|37=>22|0=>0|127=>217|5=>5|n=>n,fun|n=>n⟩
theorem Tryz.X8p:Go.Proofs.LaysM.n316 Tryz.prog Tryz.X8q:=by repeat' first|kernel_rfl|(intro;kernel_rfl)|(intro;rfl)|constructor
open Go.RowKit in
theorem Tryz.stringslite_Clone(s:ByteArray)(w:World)(a:s.size<=281474976710656): Calls Tryz.prog 154 #[.string s] w fun e w'=>e= .returned (.string s)/\Below w.heap.size w w':=Any.stringslite_Clone Tryz.X8p s w a
def Tryz.X8o:Go.Shelf.Ren:=⟨fun|174=>121|247=>139|245=>140|287=>149|279=>150|280=>151|281=>152|282=>153|321=>157|322=>158|316=>154|171=>160|205=>159|243=>166|246=>168|283=>169|284=>170|285=>171|286=>172|129=>174|317=>173|318=>175|319=>176|320=>177|337=>178|338=>179|n=>n,fun|9=>9|3=>3|2=>2|75=>187|85=>188|4=>4|167=>206|5=>5|53=>178|175=>207|46=>209|168=>210|37=>22|0=>0|210=>215|21=>21|127=>217|145=>220|143=>218|171=>223|173=>226|212=>229|51=>230|20=>20|213=>231|232=>234|233=>235|80=>112|n=>n,fun|15=>2|16=>3|17=>4|18=>5|19=>6|n=>n⟩
theorem Tryz.Oy:Go.Proofs.LaysC.n174 Tryz.prog Tryz.X8o:=by repeat' first|kernel_rfl|(intro;kernel_rfl)|(intro;rfl)|constructor
open Go.RowKit in
theorem Tryz.Xdi(s:ByteArray)(w:World)(d g:Value)(a:s.size<=281474976710656)(r:w.cell? ⟨2,0,none⟩=some d)(u:w.cell? ⟨3,0,none⟩=some g)(k:∃y pe,d= .iface y pe)(m:∃y pe,g= .iface y pe): Calls Tryz.prog 121 #[.string s,.q 10,.q 64] w fun e w'=>Below w.heap.size w w'/\((∃v,Lib.parseIntB 64 s.data.toList= .ok v/\e= .returned (.tuple #[.q v,.nilIface]))\/((∀v,Lib.parseIntB 64 s.data.toList≠ .ok v)/\∃n N,e= .returned (.tuple #[.q n,.iface 210 (.p N)]))):=by
 cases h:Lib.parseIntB 64 s.data.toList
 .refine(Any.strconv_ParseInt_10_at64_ok Tryz.Oy s (by omega) _ h w).mono ?_;rintro e w'⟨rfl,A⟩;refine⟨?_,.inl ⟨_,rfl,rfl⟩⟩;rcases A with rfl|⟨t,rfl⟩
  .exact Below.refl _ _
  .exact Lib.bytesWorld_below _ _ _
 .refine(Any.strconv_ParseInt_10_at64_syntax Tryz.Oy s a h d w r (.inr k)).mono ?_;rintro e w'⟨N,rfl,_,_,j⟩;exact⟨j,.inr ⟨(by simp),_,N,rfl⟩⟩
 .refine(Any.strconv_ParseInt_10_at64_range Tryz.Oy s a h g w u (.inr m)).mono ?_;rintro e w'⟨N,rfl,_,_,j⟩;exact⟨j,.inr ⟨(by simp),_,N,rfl⟩⟩
end Go.Proofs
namespace Go.Proofs.YtaeafhenpjnhiaaGreatDoor
open Tryz Go.RowKit
theorem Bk:Maps.Keyed prog 9:=Maps.string_keyed underlying9
theorem Fv{H:Type}(l:List UInt8):Maps.has (Sc.Q6 (H:=H)) (.string l)=Ug l:=by
 unfold Sc.Q6;rw[Maps.has_setOf]
 .rw[YH];simp[Ug,Lit.sameKey]
 .intro x a;simp only[Vw]at a;obtain⟨y,_,rfl⟩:=a;trivial
theorem Fy(b:UInt8):Lib.indexByte [48,49,50,51,52,53,54,55,56,57,97,98,99,100,101,102] b=Sc.XZ b:=by
 have h:∀n,n<256->Lib.indexByte [48,49,50,51,52,53,54,55,56,57,97,98,99,100,101,102] (UInt8.ofNat n)=Sc.XZ (UInt8.ofNat n):=by decide +kernel
 have:=h b.toNat b.toNat_lt;simpa using this
theorem Su(b:UInt8):((b.toNat:Int)).toNat.toUInt8=b:=by simp
theorem Oc(b:UInt8)(w:World):CS 95 #[.t #[48,49,50,51,52,53,54,55,56,57,97,98,99,100,101,102],.int .u8 b.toNat] w (.q (Sc.XZ b)):=by
 have h:=strings_IndexByte ⟨#[48,49,50,51,52,53,54,55,56,57,97,98,99,100,101,102]⟩ b.toNat w;rw[Su]at h;rw[←Fy b];exact h
theorem OM(a:Int)(s:ByteArray)(w:World)(n:s.size<=1048576): CB 122 #[.q a,.string s] w (.agg #[.q a,.string s,.q 0,.q 0]):=by
 go_enter func122,ntmps122;go_wp2_with(first|(go_at_call 154;go_fit(stringslite_Clone s _ (by omega));rintro e k⟨rfl,g⟩;obtain⟨j,m⟩:=Qd g)|go_in);have d:BL w k:=(bA _).trans (g.mono (by simp));refine Xq (v:= .agg #[.q a,.string s,.q 0,.q 0]) (by simp[results,results122,go_sem,j]) rfl ⟨rfl,?_⟩;exact Zu d (X5 _)
def Ul(l:List UInt8):Value:=
 match l with
 | x::y::_=>if Sc.XZ x<0\/Sc.XZ y<0 then .tuple #[.int .u8 0,.bool false]else .tuple #[.int .u8 (Sc.XZ x*(16:Int)+Sc.XZ y),.bool true]
 | _=> .tuple #[.int .u8 0,.bool false]
theorem X2k(s:ByteArray)(w:World)(C:s.size<=1048576): CS 123 #[.string s] w (Ul s.data.toList):=by
 by_cases B:s.size<2
 .have a:Hid (Ul s.data.toList= .tuple #[.int .u8 0,.bool false]):=X1 (by
   have:s.data.toList.length<2:=by simpa using B
   match hl:s.data.toList,this with
   | [],_=>rfl
   | [_],_=>rfl)
  go_enter func123,ntmps123;go_wp2;go_ret2;exact⟨by rw[a.o];rfl,rfl⟩
 .have r:s.data.toList=s[0]::s[1]::s.data.toList.drop 2:=by
   have n:=Sc.drop_cons s 0 (by omega);rw[Sc.drop_cons s 1 (by omega)]at n;simpa using n
  have k:=Sc.WO s[0];have m:=Sc.WO s[1];obtain⟨u,v⟩:=k;obtain⟨y,A⟩:=m;have d:=X1 r;clear r;by_cases g:Sc.XZ s[0]<0
  .have a:Hid (Ul s.data.toList= .tuple #[.int .u8 0,.bool false]):=X1 (by rw[d.o];simp only[Ul];rw[Xa (.inl g)]);go_enter func123,ntmps123;go_wp2_with(go_at_call 95;go_fit(Oc _ _);rintro e w'⟨rfl,rfl⟩);go_ret2;exact⟨by rw[a.o];rfl,rfl⟩
  .by_cases j:Sc.XZ s[1]<0
   .have a:Hid (Ul s.data.toList= .tuple #[.int .u8 0,.bool false]):=X1 (by rw[d.o];simp only[Ul];rw[Xa (.inr j)]);go_enter func123,ntmps123;go_wp2_with(go_at_call 95;go_fit(Oc _ _);rintro e w'⟨rfl,rfl⟩);go_ret2;exact⟨by rw[a.o];rfl,rfl⟩
   .have a:Hid (Ul s.data.toList= .tuple #[.int .u8 (Sc.XZ s[0]*(16:Int)+Sc.XZ s[1]),.bool true]):=X1 (by rw[d.o];simp only[Ul];rw[X6 (by omega)]);go_enter func123,ntmps123;go_wp2_with(go_at_call 95;go_fit(Oc _ _);rintro e w'⟨rfl,rfl⟩);go_ret2;exact⟨by rw[a.o];rfl,rfl⟩
def JL(l:List UInt8):Nat:=
 match l with
 | []=>0
 | b::r=>if b.toNat=32\/b.toNat=10 then 1 else if b.toNat=35 then((b::r).takeWhile (fun c=>c !=10)).length else 0
theorem Fz(l:List UInt8):(0<=Lib.indexByte l 10->Lib.indexByte l 10=(l.takeWhile (fun c=>c !=10)).length)/\(Lib.indexByte l 10<0->(l.takeWhile (fun c=>c !=10)).length=l.length):=by
 induction l with
 | nil=>simp[Lib.indexByte]
 | cons b r g=>
  have m:=Lib.indexByte_ge r 10;simp only[Lib.indexByte,V2];by_cases d:b=10
  .subst d;simp
  .have j:(b==10)=false:=by simpa using d
   have k:(b !=10)=true:=by simpa using d
   rw[j,k];simp only[Jq,Kl,Kv,XI];by_cases hm:Lib.indexByte r 10= -1
   .have a:(Lib.indexByte r 10 == -1)=true:=by simpa using hm
    rw[a];simp only[Kv];have:=g.2 (by omega);omega
   .have a:(Lib.indexByte r 10 == -1)=false:=by simpa using hm
    rw[a];simp only[Jq,Kl];have:=g.1 (by omega);omega
theorem Fq(l:List UInt8):Sc.Xl true l=(l.takeWhile (fun c=>c !=10)).length+Sc.Xl false (l.drop (l.takeWhile (fun c=>c !=10)).length):=by
 induction l with
 | nil=>simp[Sc.Xl]
 | cons b r j=>
  by_cases a:b=10
  .subst a;simp[Sc.Xl]
  .have d:(b !=10)=true:=by simpa using a
   have g:b.toNat≠10:=fun h=>a (by rw[←Sd,h];rfl);simp only[V2,d,Kv,XI,Vv,Sc.Xl];rw[X6 g,j];omega
theorem Fs(l:List UInt8):Sc.Xl false l=JL l+Sc.Xl false (l.drop (JL l)):=by
 match l with
 | []=>simp[Sc.Xl,JL]
 | b::r=>
  simp only[JL];by_cases a:b.toNat=32\/b.toNat=10
  .rw[Xa a];simp only[Sc.Xl];rw[X6 (by omega),Xa a];simp
  .rw[X6 a];by_cases d:b.toNat=35
   .rw[Xa d,←Fq (b::r)];simp only[Sc.Xl];rw[Xa d,X6 (by omega)]
   .rw[X6 d];simp
theorem Fu(l:List UInt8)(h:JL l=0):Sc.Xl false l=0:=by
 match l,h with
 | [],_=>rfl
 | b::r,h=>
  simp only[JL]at h;by_cases a:b.toNat=32\/b.toNat=10
  .rw[Xa a]at h;omega
  .rw[X6 a]at h;by_cases d:b.toNat=35
   .rw[Xa d]at h;have g:(b !=10)=true:=by
     rw[bne_iff_ne];intro e;subst e;simp at d
    simp[g]at h
   .simp only[Sc.Xl];rw[X6 d,X6 a]
theorem Ft(l:List UInt8):JL l<=l.length:=by
 match l with
 | []=>simp[JL]
 | b::r=>
  simp only[JL];split
  .simp
  .split
   .exact Sc.LY _ _
   .simp
theorem X1r(s:ByteArray)(w:World)(y:0<s.size): CS 79 #[.string s] w (.q (JL s.data.toList)):=by
 have u:s.data.toList=s[0]::s.data.toList.drop 1:=by simpa using Sc.drop_cons s 0 y
 have k:=strings_IndexByte s 10;have k:∀w,CS 95 #[.string s,.int .u8 10] w (.q (Lib.indexByte s.data.toList 10)):=k;have a:=Fz s.data.toList;have n:=Lib.indexByte_ge s.data.toList 10;have m:Hid (JL s.data.toList=if s[0].toNat=32\/s[0].toNat=10 then 1 else if s[0].toNat=35 then(s.data.toList.takeWhile (fun c=>c !=10)).length else 0):=X1 (by rw[u];rfl);generalize Lib.indexByte s.data.toList 10=A at k a n;have v:=X1 k;have r:=X1 a;clear k a u;cases d:((s[0].toNat:Int)==32)
 .cases g:((s[0].toNat:Int)==10)
  .cases j:((s[0].toNat:Int)==35)
   .go_enter func79,ntmps79;go_wp2;go_ret;refine⟨ZQ ?_,rfl⟩;simp at d g j;rw[m.o,X6 (by omega),X6 (by omega)];rfl
   .by_cases a:0<=A;all_goals
     go_enter func79,ntmps79;go_wp2_with(go_at_call 95;go_fit(v.o _);rintro e w'⟨rfl,rfl⟩);go_ret;refine⟨ZQ ?_,rfl⟩;simp at d g j;rw[m.o,X6 (by omega),Xa (by omega)];first|exact r.o.1 a|(have:=r.o.2 (by omega);rw[this];simp)
  .go_enter func79,ntmps79;go_wp2;go_ret;refine⟨ZQ ?_,rfl⟩;simp at d g;rw[m.o,Xa (by omega)];rfl
 .go_enter func79,ntmps79;go_wp2;go_ret;refine⟨ZQ ?_,rfl⟩;simp at d;rw[m.o,Xa (by omega)];rfl
namespace Sc
def Vc(a:Nat)(b:UInt8):Nat:=a*10+(b.toNat-48)
theorem An:∀(d:List UInt8) (a:Nat),a<=d.foldl Vc a
 | [],_=>X5 _
 | c::r,a=>Xz (by unfold Vc;omega) (An r (Vc a c))
theorem Cd(M:Nat):∀(d:List UInt8) (a u:Nat),Lib.parseUintM M a d= .ok u->d.all dig=true/\u=d.foldl Vc a
 | [],a,u,h=>by simp only[Lib.parseUintM]at h;injection h with h;exact⟨rfl,h.symm⟩
 | c::r,a,u,h=>by
  simp only[Lib.parseUintM]at h;split at h
  .rename_i g;split at h
   .cases h
   .split at h
    .cases h
    .have:=Cd M r _ u h;exact⟨by simp[dig,g,this.1],this.2⟩
  .cases h
theorem Cc:∀(d:List UInt8) (a:Nat),d.all dig=true->d.foldl Vc a<=9223372036854775807->Lib.parseUintM (2 ^ 64-1) a d= .ok (d.foldl Vc a)
 | [],a,_,_=>rfl
 | c::r,a,ha,h=>by
  simp only[List.all_cons,XE]at ha;have j:=IM ha.1;have g:=An r (Vc a c);simp only[Mh]at h⊢;have k:a*10+(c.toNat-48)<=9223372036854775807:=Xz g h;simp only[Lib.parseUintM];rw[Xa j,X6 (by omega),X6 (by omega)];exact Cc r (Vc a c) ha.2 h
theorem Xdm(c:UInt8)(r:List UInt8)(g:dig c=true)(v:Int)(h:Lib.parseIntB 64 (c::r)= .ok v):(c::r).all dig=true/\YR (c::r)<=9223372036854775807/\v=YR (c::r):=by
 have k:=IM g;simp only[Lib.parseIntB]at h;rw[X6 (show ¬(c.toNat=43\/c.toNat=45) by omega)]at h;simp only[Lib.parseUintB]at h;rw[X6 (by simp)]at h;cases d:Lib.parseUintM (2 ^ 64-1) 0 (c::r)with
 | ok u=>
  rw[d]at h;simp only at h;have a:¬c.toNat=45:=by omega
  simp only[a,BO,I0,false_and,Kl]at h;have:=Cd _ _ _ _ d;split at h
  .cases h
  .injection h with h;rename_i j;have e:YR (c::r)=u:=by rw[this.2];rfl
   rw[e];exact⟨this.1,by omega,h.symm⟩
 | _=>rw[d]at h;cases h
theorem Xdl(c:UInt8)(r:List UInt8)(d:(c::r).all dig=true)(j:YR (c::r)<=9223372036854775807):Lib.parseIntB 64 (c::r)= .ok (YR (c::r)):=by
 have k:=IM (b:=c) (by simp only[List.all_cons,XE]at d;exact d.1);have g:Lib.parseUintM (2 ^ 64-1) 0 (c::r)= .ok (YR (c::r)):=Cc _ 0 d j;simp only[Lib.parseIntB];rw[X6 (show ¬(c.toNat=43\/c.toNat=45) by omega)];simp only[Lib.parseUintB];rw[X6 (by simp),g];have a:¬c.toNat=45:=by omega
 simp only[a,BO,I0,false_and,Kl];rw[X6 (by omega)]
end Sc
def J4(r:Sc.R):Value:=
 if r.code=0 then .tuple #[.agg #[.q r.kind,.string ⟨r.text.toArray⟩,.q r.n,.q 0],.q r.size,.q 0]
 else .tuple #[.agg #[.q 0,.t #[],.q 0,.q 0],.q 0,.q r.code]
theorem Um{r:Sc.R}{c:Nat}(h:r=Sc.bad c)(a:c≠0):J4 r= .tuple #[.agg #[.q 0,.t #[],.q 0,.q 0],.q 0,.q c]:=by
 subst h;unfold J4 Sc.bad;rw[X6 a]
theorem VS{r:Sc.R}{a n size:Nat}{text:List UInt8}(h:r=⟨0,a,text,n,size⟩):J4 r= .tuple #[.agg #[.q a,.string ⟨text.toArray⟩,.q n,.q 0],.q size,.q 0]:=by
 subst h;unfold J4;rw[Xa rfl]
def Zy(w:World):Prop:=(∃t p,w.cell? ⟨2,0,none⟩=some (.iface t p))/\(∃t p,w.cell? ⟨3,0,none⟩=some (.iface t p))/\3<w.heap.size
theorem Zy.below{w w':World}{B:Nat}(h:Zy w)(a:Below B w w')(k:3<B):Zy w':=by
 obtain⟨⟨t,p,d⟩,⟨n,m,g⟩,j⟩:=h;exact⟨⟨t,p,(a.cell (p:=⟨2,0,none⟩) (by show 2<B;omega)).trans d⟩,⟨n,m,(a.cell (p:=⟨3,0,none⟩) k).trans g⟩,XH j a.size⟩
theorem Zy.parse{w:World}(h:Zy w)(s:ByteArray)(a:s.size<=1048576): Calls prog 121 #[.string s,.q 10,.q 64] w fun e w'=>Below w.heap.size w w'/\((∃v,Lib.parseIntB 64 s.data.toList= .ok v/\e= .returned (.tuple #[.q v,.nilIface]))\/((∀v,Lib.parseIntB 64 s.data.toList≠ .ok v)/\∃n N,e= .returned (.tuple #[.q n,.iface 210 (.p N)]))):=by
 obtain⟨⟨t,p,d⟩,⟨k,j,g⟩,_⟩:=h;exact Xdi s w _ _ (by omega) d g ⟨t,p,rfl⟩ ⟨k,j,rfl⟩
theorem Sc.head_cons(s:ByteArray)(a:0<s.size):s.data.toList=s[0]::s.data.toList.drop 1:=by simpa using Sc.drop_cons s 0 a
theorem Xfr(s:ByteArray)(w:World)(hs:s.size<=1048576)(h0:0<s.size)(hd:Sc.dig s[0]=true)(U:Zy w): CB 100 #[.string s] w (J4 (Sc.ZV s.data.toList)):=by
 have a:=Sc.head_cons s h0;have K:=Sc.LY Sc.nm s.data.toList;have A:s.data.toList.length=s.size:=by simp
 rw[A]at K;have hx:(s.extract 0 (s.data.toList.takeWhile Sc.nm).length).data.toList=s.data.toList.takeWhile Sc.nm:=by
  rw[Lib.extract_data];simp[MB]
 have m:s.data.toList.takeWhile Sc.nm=s[0]::(s.data.toList.drop 1).takeWhile Sc.nm:=by
  conv=>lhs;rw[a]
  rw[V2,Xa (Sc.A4 hd)]
 have E:s.data.toList.head?=some 48↔s[0].toNat=48:=by
  rw[a];simp only[List.head?_cons,ZO];rw[←Sd];rfl
 have L:Sc.ZV s.data.toList=if(s.data.toList.takeWhile Sc.nm).all Sc.dig=true/\Sc.YR (s.data.toList.takeWhile Sc.nm)<=9223372036854775807/\¬(s.data.toList.head?=some 48/\1<(s.data.toList.takeWhile Sc.nm).length)then⟨0,3,[],Sc.YR (s.data.toList.takeWhile Sc.nm),(s.data.toList.takeWhile Sc.nm).length⟩else Sc.bad 3:=rfl;have W:Lib.parseIntB 64 (s.data.toList.takeWhile Sc.nm)= .ok (Sc.YR (s.data.toList.takeWhile Sc.nm))/\(s.data.toList.takeWhile Sc.nm).all Sc.dig=true/\Sc.YR (s.data.toList.takeWhile Sc.nm)<=9223372036854775807\/(∀v,Lib.parseIntB 64 (s.data.toList.takeWhile Sc.nm)≠ .ok v)/\Sc.ZV s.data.toList=Sc.bad 3:=by
  rw[L];by_cases g:(s.data.toList.takeWhile Sc.nm).all Sc.dig=true/\Sc.YR (s.data.toList.takeWhile Sc.nm)<=9223372036854775807
  .left;refine⟨?_,g⟩;rw[m]at g⊢;exact Sc.Xdl _ _ g.1 g.2
  .right;refine⟨fun v r=>g ?_,X6 (fun h=>g ⟨h.1,h.2.1⟩)⟩;rw[m]at r⊢;have:=Sc.Xdm _ _ hd v r;exact⟨this.1,this.2.1⟩
 have V:=OK s;generalize M:s.data.toList.takeWhile Sc.nm=d at *;clear M;have S:=X1 hx;have Q:=X1 W;have J:=X1 L;have C:=X1 E;have HN:=X1 V;have a0:1<=d.length:=by rw[m];simp
 clear hx W L E V a A m;go_enter func100,ntmps100;go_wp2_with(first|(go_at_call 97;go_fit(HN.o _ hs);rintro e w'⟨rfl,rfl⟩));have F:Zy (w.alloc (.cells #[.q 0,.t #[],.q 0,.q 0] 101)):=U.below (bA _) U.2.2;go_fit(F.parse (s.extract 0 d.length) (by simp;omega));clear F;rintro e w1⟨Z,H⟩;obtain⟨g,hf⟩:=Qd Z;have j:BL w w1:=(bA _).trans (Z.mono (by simp));rcases H with⟨v,r,rfl⟩|⟨k,n,N,rfl⟩
 .rw[S.o]at r;rcases Q.o with⟨I,X,y⟩|⟨k,_⟩
  .rw[I]at r;injection r with r;subst r;have O:=X1 X;clear X I;cases hz:((s[0].toNat:Int)==48)
   .have B:Hid (Sc.ZV s.data.toList=⟨0,3,[],Sc.YR d,d.length⟩):=X1 (by rw[J.o,Xa ⟨O.o,y,fun h=>by have:=C.o.1 h.1;simp at hz;omega⟩]);go_wp2;refine Xq (v:= .tuple #[.agg #[.q 3,.t #[],.q (Sc.YR d),.q 0],.q d.length,.q 0]) (by simp[results,results100,go_sem,g]) rfl ⟨by rw[VS B.o];rfl,?_⟩;exact Zu j (X5 _)
   .by_cases hl:1<d.length
    .have B:Hid (Sc.ZV s.data.toList=Sc.bad 3):=X1 (by rw[J.o,X6 (fun h=>h.2.2 ⟨C.o.2 (by simp at hz;omega),hl⟩)]);go_wp2;refine Xq (v:= .tuple #[.agg #[.q 0,.t #[],.q 0,.q 0],.q 0,.q 3]) (by simp[results,results100,go_sem,g]) rfl ⟨by rw[Um B.o (by decide)];rfl,?_⟩;exact Zu j (X5 _)
    .have B:Hid (Sc.ZV s.data.toList=⟨0,3,[],Sc.YR d,d.length⟩):=X1 (by rw[J.o,Xa ⟨O.o,y,fun h=>hl h.2⟩]);go_wp2;refine Xq (v:= .tuple #[.agg #[.q 3,.t #[],.q (Sc.YR d),.q 0],.q d.length,.q 0]) (by simp[results,results100,go_sem,g]) rfl ⟨by rw[VS B.o];rfl,?_⟩;exact Zu j (X5 _)
  .exact absurd r (k v)
 .rcases Q.o with⟨I,_⟩|⟨_,u⟩
  .exact absurd (by rw[S.o];exact I) (k _)
  .have B:=X1 u;clear u k;go_wp2;refine Xq (v:= .tuple #[.agg #[.q 0,.t #[],.q 0,.q 0],.q 0,.q 3]) (by simp[results,results100,go_sem,g]) rfl ⟨by rw[Um B.o (by decide)];rfl,?_⟩;exact Zu j (X5 _)
theorem Sc.Y3j(l:List UInt8)(h:Ug l=true):l.length<=5:=by
 have a:∀x∈Sc.words,x.length<=5:=by decide
 exact a l (by simpa[Ug]using h)
theorem EP(w:World):(zeroValue 84).run prog w= .ok (.agg #[]) w:=by kernel_rfl
theorem Xfq(s:ByteArray)(b:Nat)(w:World)(L:s.size<=1048576)(hm:w.ownsMap (H:=Unit) prog 9 unitElem b 17 Sc.Q6): CB 101 #[.string s,.map (some b)] w (J4 (Sc.Kx s.data.toList)):=by
 have K:=Sc.LY Sc.nm s.data.toList;have j:s.data.toList.length=s.size:=by simp
 rw[j]at K;have M:(s.extract 0 (s.data.toList.takeWhile Sc.nm).length).data.toList=s.data.toList.takeWhile Sc.nm:=by
  rw[Lib.extract_data];simp[MB]
 have V:Sc.Kx s.data.toList=if(s.data.toList.takeWhile Sc.nm)∈Sc.words then⟨0,2,s.data.toList.takeWhile Sc.nm,0,(s.data.toList.takeWhile Sc.nm).length⟩else if 30<(s.data.toList.takeWhile Sc.nm).length then Sc.bad 5 else⟨0,1,s.data.toList.takeWhile Sc.nm,0,(s.data.toList.takeWhile Sc.nm).length⟩:=rfl;have S:=OK s;have A:=Sc.Y3j (s.data.toList.takeWhile Sc.nm);have W:Ug (s.data.toList.takeWhile Sc.nm)=decide ((s.data.toList.takeWhile Sc.nm)∈Sc.words):=rfl;have U:=Fv (H:=Unit) (s.data.toList.takeWhile Sc.nm);generalize s.data.toList.takeWhile Sc.nm=d at *;have g:keyOf prog 9 (.string (s.extract 0 d.length))=some (.string d):=by
  rw[MG underlying9 (by unfold maxLen;simp;omega),M]
 have Q:=X1 M;have E:=X1 V;have C:=X1 S;have O:=X1 g;have F:=X1 W;have I:=X1 A;have N:=X1 U;clear M V S j g W A U;by_cases u:30<d.length
 .have r:Hid (Sc.Kx s.data.toList=Sc.bad 5):=X1 (by
   rw[E.o,X6,Xa u];intro h;have:=I.o (by rw[F.o];simpa using h);omega)
  go_enter func101,ntmps101;go_wp2_with(go_at_call 97;go_fit(C.o _ L);rintro e w'⟨rfl,rfl⟩);refine Xq (v:= .tuple #[.agg #[.q 0,.t #[],.q 0,.q 0],.q 0,.q 5]) (by simp[results,results101,go_sem]) rfl ⟨by rw[Um r.o (by decide)];rfl,?_⟩;exact bA _
 .cases a:Ug d
  .have y:Maps.has (Sc.Q6 (H:=Unit)) (.string d)=false:=N.o.trans a;have r:Hid (Sc.Kx s.data.toList=⟨0,1,d,0,d.length⟩):=X1 (by rw[E.o,X6 (by have:=F.o;rw[a]at this;simpa using this.symm),X6 u]);go_enter func101,ntmps101;go_wp2_with(first|(go_at_call 97;go_fit(C.o _ L);rintro e w'⟨rfl,rfl⟩)|(at_lookup;refine wpList_lookup_own_unit _ rfl _ _ 39 rfl 9 84 Bk underlying39 (EP _) b 17 Sc.Q6 rfl (hm.alloc _) _ _ rfl O.o ?_)|(go_at_call 122;go_fit(OM 1 _ _ ?_)))
   .simp;omega
   .rintro e B⟨rfl,k⟩;obtain⟨J,X⟩:=Qd k;have m:BL w B:=((bA _).alloc (by simp) _).trans (k.mono (by simp;omega));have Z:w.heap.size<B.heap.size:=by have:=k.size;simp at this;omega
    have n:w.heap.size<w.heap.size+1+1:=by omega
    go_wp2;refine Xq (v:= .tuple #[.agg #[.q 1,.string (s.extract 0 d.length),.q 0,.q 0],.q d.length,.q 0]) (by simp[results,results101,go_sem,J,n]) rfl ⟨by rw[VS r.o,DY Q.o];rfl,?_⟩;exact Zu m (X5 _)
  .have y:Maps.has (Sc.Q6 (H:=Unit)) (.string d)=true:=N.o.trans a;have r:Hid (Sc.Kx s.data.toList=⟨0,2,d,0,d.length⟩):=X1 (by rw[E.o,Xa (by have:=F.o;rw[a]at this;simpa using this.symm)]);go_enter func101,ntmps101;go_wp2_with(first|(go_at_call 97;go_fit(C.o _ L);rintro e w'⟨rfl,rfl⟩)|(at_lookup;refine wpList_lookup_own_unit _ rfl _ _ 39 rfl 9 84 Bk underlying39 (EP _) b 17 Sc.Q6 rfl (hm.alloc _) _ _ rfl O.o ?_)|(go_at_call 122;go_fit(OM 2 _ _ ?_)))
   .simp;omega
   .rintro e B⟨rfl,k⟩;obtain⟨J,X⟩:=Qd k;have m:BL w B:=((bA _).alloc (by simp) _).trans (k.mono (by simp;omega));have Z:w.heap.size<B.heap.size:=by have:=k.size;simp at this;omega
    have n:w.heap.size<w.heap.size+1+1:=by omega
    go_wp2;refine Xq (v:= .tuple #[.agg #[.q 2,.string (s.extract 0 d.length),.q 0,.q 0],.q d.length,.q 0]) (by simp[results,results101,go_sem,J,n]) rfl ⟨by rw[VS r.o,DY Q.o];rfl,?_⟩;exact Zu m (X5 _)
namespace Sc
def dbl:List (List UInt8):=[[61,61],[33,61],[60,61],[62,61],[61,62]]
def sgl:List UInt8:=[40,41,91,93,123,125,44,59,58,46,61,60,62,43,45,42,47,37]
theorem By:marks=dbl++sgl.map (fun c=>[c]):=rfl
theorem E8(b:UInt8)(r:List UInt8):∀a:List UInt8,(a.map fun c=>[c]).find? (fun m=>m.isPrefixOf (b::r))=if a.contains b then some [b]else none
 | []=>rfl
 | c::a=>by
  have j:=E8 b r a;simp only[Y5,List.find?_cons,List.contains_cons];by_cases h:c=b
  .subst h;simp[List.isPrefixOf]
  .have d:(c==b)=false:=by simpa using h
   have g:(b==c)=false:=by simpa using fun e:b=c=>h e.symm
   simp only[List.isPrefixOf,d,g,UW,I3,j]
theorem Gm(l:List UInt8)(m:List UInt8)(h:dbl.find? (fun m=>m.isPrefixOf l)=some m):ZM l=⟨0,5,m,0,m.length⟩:=by
 unfold ZM;rw[By,List.find?_append,h];rfl
theorem Bw(b:UInt8)(r:List UInt8)(h:dbl.find? (fun m=>m.isPrefixOf (b::r))=none):ZM (b::r)=if sgl.contains b then⟨0,5,[b],0,1⟩else bad 2:=by
 unfold ZM;rw[By,List.find?_append,h,E8 b r sgl];by_cases a:sgl.contains b=true
 .rw[Xa a,Xa a];rfl
 .rw[X6 a,X6 a];rfl
end Sc
theorem X9m(s:ByteArray)(w:World)(J:0<s.size): CS 124 #[.string s] w (.q (Sc.ZM s.data.toList).size):=by
 have A:=fun w=>strings_IndexByte ⟨#[40,41,91,93,123,125,44,59,58,46,61,60,62,43,45,42,47,37]⟩ s[0].toNat w;rw[Su]at A;have A:∀w,CS 95 #[.t #[40,41,91,93,123,125,44,59,58,46,61,60,62,43,45,42,47,37],.int .u8 s[0].toNat] w (.q (Lib.indexByte Sc.sgl s[0])):=A;have g:=X1 (Lib.contains_iff_indexByte Sc.sgl s[0]);have j:=X1 (Sc.head_cons s J);have a:Hid (∀m:List UInt8,m.length=2->m.isPrefixOf s.data.toList=((s.extract 0 2).toList==m)):=X1 (fun m h=>by have:=MA s 0 m;rw[h]at this;simpa using this);generalize Lib.indexByte Sc.sgl s[0]=I at A g;have F:=X1 A;clear A;by_cases L:1<s.size
 .cases d:((s.extract 0 2).toList==[61,61])
  .cases n:((s.extract 0 2).toList==[33,61])
   .cases v:((s.extract 0 2).toList==[60,61])
    .cases y:((s.extract 0 2).toList==[62,61])
     .cases E:((s.extract 0 2).toList==[61,62])
      .have H:Hid (Sc.dbl.find? (fun m=>m.isPrefixOf s.data.toList)=none):=X1 (by simp only[Sc.dbl,List.find?_cons,List.find?_nil,a.o _ (show([61,61]:List UInt8).length=2 from rfl),a.o _ (show([33,61]:List UInt8).length=2 from rfl),a.o _ (show([60,61]:List UInt8).length=2 from rfl),a.o _ (show([62,61]:List UInt8).length=2 from rfl),a.o _ (show([61,62]:List UInt8).length=2 from rfl),d,n,v,y,E]);have B:Hid (Sc.ZM s.data.toList=if Sc.sgl.contains s[0]then⟨0,5,[s[0]],0,1⟩else Sc.bad 2):=X1 (by have h:=H.o;have C:=j.o;generalize s.data.toList.drop 1=r at C;rw[C]at h⊢;exact Sc.Bw _ _ h);by_cases k:0<=I
       .go_enter func124,ntmps124;go_wp2_with(go_at_call 95;go_fit(F.o _);rintro e w'⟨rfl,rfl⟩);go_ret;exact⟨ZQ (by rw[B.o,Xa (by rw[g.o];simpa using k)];rfl),rfl⟩
       .go_enter func124,ntmps124;go_wp2_with(go_at_call 95;go_fit(F.o _);rintro e w'⟨rfl,rfl⟩);go_ret;exact⟨ZQ (by rw[B.o,X6 (by rw[g.o];simpa using k)];rfl),rfl⟩
      .have u:=X1 (Sc.Gm s.data.toList [61,62] (by simp only[Sc.dbl,List.find?_cons,a.o _ (show([61,61]:List UInt8).length=2 from rfl),a.o _ (show([33,61]:List UInt8).length=2 from rfl),a.o _ (show([60,61]:List UInt8).length=2 from rfl),a.o _ (show([62,61]:List UInt8).length=2 from rfl),a.o _ (show([61,62]:List UInt8).length=2 from rfl),d,n,v,y,E]));go_enter func124,ntmps124;go_wp2;go_ret;exact⟨ZQ (by rw[u.o];rfl),rfl⟩
     .have u:=X1 (Sc.Gm s.data.toList [62,61] (by simp only[Sc.dbl,List.find?_cons,a.o _ (show([61,61]:List UInt8).length=2 from rfl),a.o _ (show([33,61]:List UInt8).length=2 from rfl),a.o _ (show([60,61]:List UInt8).length=2 from rfl),a.o _ (show([62,61]:List UInt8).length=2 from rfl),d,n,v,y]));go_enter func124,ntmps124;go_wp2;go_ret;exact⟨ZQ (by rw[u.o];rfl),rfl⟩
    .have u:=X1 (Sc.Gm s.data.toList [60,61] (by simp only[Sc.dbl,List.find?_cons,a.o _ (show([61,61]:List UInt8).length=2 from rfl),a.o _ (show([33,61]:List UInt8).length=2 from rfl),a.o _ (show([60,61]:List UInt8).length=2 from rfl),d,n,v]));go_enter func124,ntmps124;go_wp2;go_ret;exact⟨ZQ (by rw[u.o];rfl),rfl⟩
   .have u:=X1 (Sc.Gm s.data.toList [33,61] (by simp only[Sc.dbl,List.find?_cons,a.o _ (show([61,61]:List UInt8).length=2 from rfl),a.o _ (show([33,61]:List UInt8).length=2 from rfl),d,n]));go_enter func124,ntmps124;go_wp2;go_ret;exact⟨ZQ (by rw[u.o];rfl),rfl⟩
  .have u:=X1 (Sc.Gm s.data.toList [61,61] (by simp only[Sc.dbl,List.find?_cons,a.o _ (show([61,61]:List UInt8).length=2 from rfl),d]));go_enter func124,ntmps124;go_wp2;go_ret;exact⟨ZQ (by rw[u.o];rfl),rfl⟩
 .have H:Hid (Sc.dbl.find? (fun m=>m.isPrefixOf s.data.toList)=none):=X1 (by
   rw[List.find?_eq_none];intro m hm K;have M:m.length=2:=by
    have:∀x∈Sc.dbl,x.length=2:=by decide
    exact this m hm
   have:=(V0.1 K).length_le;simp at this;omega)
  have B:Hid (Sc.ZM s.data.toList=if Sc.sgl.contains s[0]then⟨0,5,[s[0]],0,1⟩else Sc.bad 2):=X1 (by have h:=H.o;have C:=j.o;generalize s.data.toList.drop 1=r at C;rw[C]at h⊢;exact Sc.Bw _ _ h);by_cases k:0<=I
  .go_enter func124,ntmps124;go_wp2_with(go_at_call 95;go_fit(F.o _);rintro e w'⟨rfl,rfl⟩);go_ret;exact⟨ZQ (by rw[B.o,Xa (by rw[g.o];simpa using k)];rfl),rfl⟩
  .go_enter func124,ntmps124;go_wp2_with(go_at_call 95;go_fit(F.o _);rintro e w'⟨rfl,rfl⟩);go_ret;exact⟨ZQ (by rw[B.o,X6 (by rw[g.o];simpa using k)];rfl),rfl⟩
