import Derived.Test.YtkoiikmhfaebnaaGreatDoorB12
set_option maxHeartbeats 1000000
set_option maxRecDepth 100000
namespace Go.Proofs.YtkoiikmhfaebnaaGreatDoor.Vl
open Tryz Go.RowKit T.atoms T.ok T.high T.Y0 T.Ko Xs T.ord
def YF(K:Value->ByteArray->World->Prop)(e:Ending)(w':World):Prop:=∃dv s,e= .returned (.tuple #[dv,.string s])/\K dv s w'
def DTy(y:TypeId):Prop:=y=356\/y=73\/y=96\/y=81\/y=88\/y=93
theorem Fe(y:TypeId)(u:Value)(w:World)(h:DTy y):(Instr.typeAssert (.iface y u) 75 75 true).run prog w= .ok (.tuple #[.iface y u,.bool true]) w:=by
 rcases h with rfl|rfl|rfl|rfl|rfl|rfl<;>kernel_rfl
theorem Br{w:World}{x:Nat}{t:T}{v:Value}(h:Xs w x t v):∃y u,v= .iface y u/\DTy y:=by
 cases t with
 | mk k n s ks=>
  rw[Xs]at h;rcases h with⟨_,rfl⟩|⟨_,rfl⟩|⟨_,rfl⟩|⟨_,rfl⟩|⟨_,p,c,a,rfl,_⟩|⟨_,p,c,m,a,_,rfl,_⟩<;>exact⟨_,_,rfl,by unfold DTy;simp⟩
theorem Qy(P:Program)(w:World)(a:Addr)(fn:Fn)(x y:Array Value):(store a (.func fn x y)).run P w=stored P w a (.func fn x y) .plain:=run_store P w a _ _ rfl
def Xt(n:Int)(f b:Nat):Value:= .agg #[.int .i64 n,.func (.func f) #[] #[.pointer (some ⟨b,0,none⟩)]]
def VT(w:World)(f:Nat)(fv:Value)(e:Ending)(w':World):Prop:=e= .returned (Xt 2 f w.heap.size)/\w'.cell? ⟨w.heap.size,0,none⟩=some fv/\Below w.heap.size w w'/\w.heap.size<w'.heap.size
theorem Sv(f:FuncId)(a:Array Value)(w:World):Calls prog 32 #[.func (.func f) #[] a] w (VT w 92 (.func (.func f) #[] a)):=by
 have c:=Qy prog;go_enter func32,ntmps32;go_wp2;refine X7 (v:=Xt 2 92 w.heap.size) (by simp[results,results32,go_sem,Xt]) rfl ⟨rfl,?_,?_,by simp;omega⟩
 .exact(((X5 (w.heap.size+1) (w.alloc (.cells #[.func (.func f) #[] a] 76))).alloc (by simp) _).cell (p:=⟨w.heap.size,0,none⟩) (XI _)).trans (by simp)
 .exact(bA _).alloc (by simp) _
theorem Y4h(f:FuncId)(c:Bool)(d:Bool){l:Nat}(g k:Nat)(K:Value->ByteArray->World->Prop)(w:World)(q:w.cell? ⟨g,0,none⟩=some (.iface 73 (.bool c)))(r:w.cell? ⟨g,1,none⟩=some (.iface 73 (.bool d)))(t:w.cell? ⟨k,0,none⟩=some (.func (.func f) #[] #[]))(_hg:g<w.heap.size)(_hkl:k<w.heap.size)(n:∀a w,(callFunc f a).run prog w= .ok (.enter f a) w)(j:Hid (∀W,BL w W->Calls prog f #[.bool c,.bool d] W (YF K))): Calls prog 92 #[.slice (some ⟨g,0,none⟩) 2 l,.pointer (some ⟨k,0,none⟩)] w (YF K):=by
 have u:=Wq c;have v:=Wq d;go_enter func92,ntmps92;go_wp2_with fail;refine(j.o _ (X5 w.heap.size w)).mono ?_;rintro e w'⟨dv,s,rfl,m⟩;go_wp2;go_ret2;exact⟨dv,s,rfl,m⟩
theorem Y4i(f:FuncId)(q:Nat)(c:Bool)(d:Bool){l:Nat}(g k:Nat)(K:Value->ByteArray->World->Prop)(w:World)(r:w.cell? ⟨g,0,none⟩=some (.iface 73 (.bool c)))(t:w.cell? ⟨g,1,none⟩=some (.iface 73 (.bool d)))(u:w.cell? ⟨k,0,none⟩=some (.func (.func f) #[] #[.pointer (some ⟨q,0,none⟩)]))(_hg:g<w.heap.size)(_hkl:k<w.heap.size)(n:∀a w,(callFunc f a).run prog w= .ok (.enter f a) w)(j:Hid (∀W,BL w W->Calls prog f #[.bool c,.bool d,.pointer (some ⟨q,0,none⟩)] W (YF K))): Calls prog 92 #[.slice (some ⟨g,0,none⟩) 2 l,.pointer (some ⟨k,0,none⟩)] w (YF K):=by
 have v:=Wq c;have y:=Wq d;go_enter func92,ntmps92;go_wp2_with fail;refine(j.o _ (X5 w.heap.size w)).mono ?_;rintro e w'⟨dv,s,rfl,m⟩;go_wp2;go_ret2;exact⟨dv,s,rfl,m⟩
theorem Fq(y:TypeId)(u:Value)(c:¬y=73){a:Nat}(g k:Nat)(w:World)(d:w.cell? ⟨g,0,none⟩=some (.iface y u)): Calls prog 92 #[.slice (some ⟨g,0,none⟩) 2 a,.pointer (some ⟨k,0,none⟩)] w fun e w'=>e= .returned (.tuple #[.nilIface,.string ⟨#[116,121,112,101]⟩])/\Below w.heap.size w w':=by
 have j:=fun w=>Lb y u w c;go_enter func92,ntmps92;go_wp2;go_ret2;first|exact⟨rfl,X5 _ _⟩|exact⟨rfl,bA _⟩|exact⟨rfl,(bA _).alloc (by simp) _⟩
theorem Fs(a:Bool)(y:TypeId)(u:Value)(d:¬y=73){c:Nat}(g k:Nat)(w:World)(j:w.cell? ⟨g,0,none⟩=some (.iface 73 (.bool a)))(l:w.cell? ⟨g,1,none⟩=some (.iface y u))(_hg:g<w.heap.size): Calls prog 92 #[.slice (some ⟨g,0,none⟩) 2 c,.pointer (some ⟨k,0,none⟩)] w fun e w'=>e= .returned (.tuple #[.nilIface,.string ⟨#[116,121,112,101]⟩])/\Below w.heap.size w w':=by
 have m:=Wq a;have n:=fun w=>Lb y u w d;go_enter func92,ntmps92;go_wp2;go_ret2;first|exact⟨rfl,X5 _ _⟩|exact⟨rfl,bA _⟩|exact⟨rfl,(bA _).alloc (by simp) _⟩
theorem Sw(f:FuncId)(a:Array Value)(w:World):Calls prog 44 #[.func (.func f) #[] a] w (VT w 101 (.func (.func f) #[] a)):=by
 have c:=Qy prog;go_enter func44,ntmps44;go_wp2;refine X7 (v:=Xt 2 101 w.heap.size) (by simp[results,results44,go_sem,Xt]) rfl ⟨rfl,?_,?_,by simp;omega⟩
 .exact(((X5 (w.heap.size+1) (w.alloc (.cells #[.func (.func f) #[] a] 82))).alloc (by simp) _).cell (p:=⟨w.heap.size,0,none⟩) (XI _)).trans (by simp)
 .exact(bA _).alloc (by simp) _
theorem Y4t(f:FuncId)(c:ByteArray)(zs:ByteArray){j:Nat}(g k:Nat)(K:Value->ByteArray->World->Prop)(w:World)(n:w.cell? ⟨g,0,none⟩=some (.iface 81 (.string c)))(q:w.cell? ⟨g,1,none⟩=some (.iface 81 (.string zs)))(r:w.cell? ⟨k,0,none⟩=some (.func (.func f) #[] #[]))(_hg:g<w.heap.size)(_hkl:k<w.heap.size)(m:∀a w,(callFunc f a).run prog w= .ok (.enter f a) w)(d:Hid (∀W,BL w W->Calls prog f #[.string c,.string zs] W (YF K))): Calls prog 101 #[.slice (some ⟨g,0,none⟩) 2 j,.pointer (some ⟨k,0,none⟩)] w (YF K):=by
 have t:=Gu c;have u:=Gu zs;go_enter func101,ntmps101;go_wp2_with fail;refine(d.o _ (X5 w.heap.size w)).mono ?_;rintro e w'⟨dv,s,rfl,l⟩;go_wp2;go_ret2;exact⟨dv,s,rfl,l⟩
theorem Y4u(f:FuncId)(q:Nat)(c:ByteArray)(zs:ByteArray){j:Nat}(g k:Nat)(K:Value->ByteArray->World->Prop)(w:World)(n:w.cell? ⟨g,0,none⟩=some (.iface 81 (.string c)))(r:w.cell? ⟨g,1,none⟩=some (.iface 81 (.string zs)))(t:w.cell? ⟨k,0,none⟩=some (.func (.func f) #[] #[.pointer (some ⟨q,0,none⟩)]))(_hg:g<w.heap.size)(_hkl:k<w.heap.size)(m:∀a w,(callFunc f a).run prog w= .ok (.enter f a) w)(d:Hid (∀W,BL w W->Calls prog f #[.string c,.string zs,.pointer (some ⟨q,0,none⟩)] W (YF K))): Calls prog 101 #[.slice (some ⟨g,0,none⟩) 2 j,.pointer (some ⟨k,0,none⟩)] w (YF K):=by
 have u:=Gu c;have v:=Gu zs;go_enter func101,ntmps101;go_wp2_with fail;refine(d.o _ (X5 w.heap.size w)).mono ?_;rintro e w'⟨dv,s,rfl,l⟩;go_wp2;go_ret2;exact⟨dv,s,rfl,l⟩
theorem Fy(y:TypeId)(u:Value)(c:¬y=81){a:Nat}(g k:Nat)(w:World)(d:w.cell? ⟨g,0,none⟩=some (.iface y u)): Calls prog 101 #[.slice (some ⟨g,0,none⟩) 2 a,.pointer (some ⟨k,0,none⟩)] w fun e w'=>e= .returned (.tuple #[.nilIface,.string ⟨#[116,121,112,101]⟩])/\Below w.heap.size w w':=by
 have j:=fun w=>Oe y u w c;go_enter func101,ntmps101;go_wp2;go_ret2;first|exact⟨rfl,X5 _ _⟩|exact⟨rfl,bA _⟩|exact⟨rfl,(bA _).alloc (by simp) _⟩
theorem Fz(a:ByteArray)(y:TypeId)(u:Value)(d:¬y=81){c:Nat}(g k:Nat)(w:World)(j:w.cell? ⟨g,0,none⟩=some (.iface 81 (.string a)))(l:w.cell? ⟨g,1,none⟩=some (.iface y u))(_hg:g<w.heap.size): Calls prog 101 #[.slice (some ⟨g,0,none⟩) 2 c,.pointer (some ⟨k,0,none⟩)] w fun e w'=>e= .returned (.tuple #[.nilIface,.string ⟨#[116,121,112,101]⟩])/\Below w.heap.size w w':=by
 have m:=Gu a;have n:=fun w=>Oe y u w d;go_enter func101,ntmps101;go_wp2;go_ret2;first|exact⟨rfl,X5 _ _⟩|exact⟨rfl,bA _⟩|exact⟨rfl,(bA _).alloc (by simp) _⟩
theorem Y4n(f:FuncId)(a:Array Value)(w:World):Calls prog 46 #[.func (.func f) #[] a] w (VT w 103 (.func (.func f) #[] a)):=by
 have c:=Qy prog;go_enter func46,ntmps46;go_wp2;refine X7 (v:=Xt 2 103 w.heap.size) (by simp[results,results46,go_sem,Xt]) rfl ⟨rfl,?_,?_,by simp;omega⟩
 .exact(((X5 (w.heap.size+1) (w.alloc (.cells #[.func (.func f) #[] a] 89))).alloc (by simp) _).cell (p:=⟨w.heap.size,0,none⟩) (XI _)).trans (by simp)
 .exact(bA _).alloc (by simp) _
theorem Y4o(y:TypeId)(u:Value)(c:¬y=88){a:Nat}(g k:Nat)(w:World)(d:w.cell? ⟨g,0,none⟩=some (.iface y u)): Calls prog 103 #[.slice (some ⟨g,0,none⟩) 2 a,.pointer (some ⟨k,0,none⟩)] w fun e w'=>e= .returned (.tuple #[.nilIface,.string ⟨#[116,121,112,101]⟩])/\Below w.heap.size w w':=by
 have j:=fun w=>Og y u w c;go_enter func103,ntmps103;go_wp2;go_ret2;first|exact⟨rfl,X5 _ _⟩|exact⟨rfl,bA _⟩|exact⟨rfl,(bA _).alloc (by simp) _⟩
theorem Y4r(f:FuncId)(a:Array Value)(w:World):Calls prog 48 #[.func (.func f) #[] a] w (VT w 105 (.func (.func f) #[] a)):=by
 have c:=Qy prog;go_enter func48,ntmps48;go_wp2;refine X7 (v:=Xt 2 105 w.heap.size) (by simp[results,results48,go_sem,Xt]) rfl ⟨rfl,?_,?_,by simp;omega⟩
 .exact(((X5 (w.heap.size+1) (w.alloc (.cells #[.func (.func f) #[] a] 94))).alloc (by simp) _).cell (p:=⟨w.heap.size,0,none⟩) (XI _)).trans (by simp)
 .exact(bA _).alloc (by simp) _
theorem Y4s(y:TypeId)(u:Value)(c:¬y=93){a:Nat}(g k:Nat)(w:World)(d:w.cell? ⟨g,0,none⟩=some (.iface y u)): Calls prog 105 #[.slice (some ⟨g,0,none⟩) 2 a,.pointer (some ⟨k,0,none⟩)] w fun e w'=>e= .returned (.tuple #[.nilIface,.string ⟨#[116,121,112,101]⟩])/\Below w.heap.size w w':=by
 have j:=fun w=>Oh y u w c;go_enter func105,ntmps105;go_wp2;go_ret2;first|exact⟨rfl,X5 _ _⟩|exact⟨rfl,bA _⟩|exact⟨rfl,(bA _).alloc (by simp) _⟩
theorem Gx(f:FuncId)(a:Array Value)(w:World):Calls prog 50 #[.func (.func f) #[] a] w (VT w 107 (.func (.func f) #[] a)):=by
 have c:=Qy prog;go_enter func50,ntmps50;go_wp2;refine X7 (v:=Xt 2 107 w.heap.size) (by simp[results,results50,go_sem,Xt]) rfl ⟨rfl,?_,?_,by simp;omega⟩
 .exact(((X5 (w.heap.size+1) (w.alloc (.cells #[.func (.func f) #[] a] 97))).alloc (by simp) _).cell (p:=⟨w.heap.size,0,none⟩) (XI _)).trans (by simp)
 .exact(bA _).alloc (by simp) _
theorem Y4l(f:FuncId)(c:Int)(d:Int){l:Nat}(g k:Nat)(K:Value->ByteArray->World->Prop)(w:World)(q:w.cell? ⟨g,0,none⟩=some (.iface 96 (.int .i64 c)))(r:w.cell? ⟨g,1,none⟩=some (.iface 96 (.int .i64 d)))(t:w.cell? ⟨k,0,none⟩=some (.func (.func f) #[] #[]))(_hg:g<w.heap.size)(_hkl:k<w.heap.size)(n:∀a w,(callFunc f a).run prog w= .ok (.enter f a) w)(j:Hid (∀W,BL w W->Calls prog f #[.int .i64 c,.int .i64 d] W (YF K))): Calls prog 107 #[.slice (some ⟨g,0,none⟩) 2 l,.pointer (some ⟨k,0,none⟩)] w (YF K):=by
 have u:=Ws c;have v:=Ws d;go_enter func107,ntmps107;go_wp2_with fail;refine(j.o _ (X5 w.heap.size w)).mono ?_;rintro e w'⟨dv,s,rfl,m⟩;go_wp2;go_ret2;exact⟨dv,s,rfl,m⟩
theorem Y4m(f:FuncId)(q:Nat)(c:Int)(d:Int){l:Nat}(g k:Nat)(K:Value->ByteArray->World->Prop)(w:World)(r:w.cell? ⟨g,0,none⟩=some (.iface 96 (.int .i64 c)))(t:w.cell? ⟨g,1,none⟩=some (.iface 96 (.int .i64 d)))(u:w.cell? ⟨k,0,none⟩=some (.func (.func f) #[] #[.pointer (some ⟨q,0,none⟩)]))(_hg:g<w.heap.size)(_hkl:k<w.heap.size)(n:∀a w,(callFunc f a).run prog w= .ok (.enter f a) w)(j:Hid (∀W,BL w W->Calls prog f #[.int .i64 c,.int .i64 d,.pointer (some ⟨q,0,none⟩)] W (YF K))): Calls prog 107 #[.slice (some ⟨g,0,none⟩) 2 l,.pointer (some ⟨k,0,none⟩)] w (YF K):=by
 have v:=Ws c;have y:=Ws d;go_enter func107,ntmps107;go_wp2_with fail;refine(j.o _ (X5 w.heap.size w)).mono ?_;rintro e w'⟨dv,s,rfl,m⟩;go_wp2;go_ret2;exact⟨dv,s,rfl,m⟩
theorem Ft(y:TypeId)(u:Value)(c:¬y=96){a:Nat}(g k:Nat)(w:World)(d:w.cell? ⟨g,0,none⟩=some (.iface y u)): Calls prog 107 #[.slice (some ⟨g,0,none⟩) 2 a,.pointer (some ⟨k,0,none⟩)] w fun e w'=>e= .returned (.tuple #[.nilIface,.string ⟨#[116,121,112,101]⟩])/\Below w.heap.size w w':=by
 have j:=fun w=>Lc y u w c;go_enter func107,ntmps107;go_wp2;go_ret2;first|exact⟨rfl,X5 _ _⟩|exact⟨rfl,bA _⟩|exact⟨rfl,(bA _).alloc (by simp) _⟩
theorem Fu(a:Int)(y:TypeId)(u:Value)(d:¬y=96){c:Nat}(g k:Nat)(w:World)(j:w.cell? ⟨g,0,none⟩=some (.iface 96 (.int .i64 a)))(l:w.cell? ⟨g,1,none⟩=some (.iface y u))(_hg:g<w.heap.size): Calls prog 107 #[.slice (some ⟨g,0,none⟩) 2 c,.pointer (some ⟨k,0,none⟩)] w fun e w'=>e= .returned (.tuple #[.nilIface,.string ⟨#[116,121,112,101]⟩])/\Below w.heap.size w w':=by
 have m:=Ws a;have n:=fun w=>Lc y u w d;go_enter func107,ntmps107;go_wp2;go_ret2;first|exact⟨rfl,X5 _ _⟩|exact⟨rfl,bA _⟩|exact⟨rfl,(bA _).alloc (by simp) _⟩
theorem Fv(f:FuncId)(a:Array Value)(w:World):Calls prog 53 #[.func (.func f) #[] a] w (VT w 110 (.func (.func f) #[] a)):=by
 have c:=Qy prog;go_enter func53,ntmps53;go_wp2;refine X7 (v:=Xt 2 110 w.heap.size) (by simp[results,results53,go_sem,Xt]) rfl ⟨rfl,?_,?_,by simp;omega⟩
 .exact(((X5 (w.heap.size+1) (w.alloc (.cells #[.func (.func f) #[] a] 99))).alloc (by simp) _).cell (p:=⟨w.heap.size,0,none⟩) (XI _)).trans (by simp)
 .exact(bA _).alloc (by simp) _
theorem Fw(y:TypeId)(u:Value)(c:¬y=88){a:Nat}(g k:Nat)(w:World)(d:w.cell? ⟨g,0,none⟩=some (.iface y u)): Calls prog 110 #[.slice (some ⟨g,0,none⟩) 2 a,.pointer (some ⟨k,0,none⟩)] w fun e w'=>e= .returned (.tuple #[.nilIface,.string ⟨#[116,121,112,101]⟩])/\Below w.heap.size w w':=by
 have j:=fun w=>Og y u w c;go_enter func110,ntmps110;go_wp2;go_ret2;first|exact⟨rfl,X5 _ _⟩|exact⟨rfl,bA _⟩|exact⟨rfl,(bA _).alloc (by simp) _⟩
theorem Y4p(f:FuncId)(a:Array Value)(w:World):Calls prog 55 #[.func (.func f) #[] a] w (VT w 113 (.func (.func f) #[] a)):=by
 have c:=Qy prog;go_enter func55,ntmps55;go_wp2;refine X7 (v:=Xt 2 113 w.heap.size) (by simp[results,results55,go_sem,Xt]) rfl ⟨rfl,?_,?_,by simp;omega⟩
 .exact(((X5 (w.heap.size+1) (w.alloc (.cells #[.func (.func f) #[] a] 101))).alloc (by simp) _).cell (p:=⟨w.heap.size,0,none⟩) (XI _)).trans (by simp)
 .exact(bA _).alloc (by simp) _
theorem Y4q(y:TypeId)(u:Value)(c:¬y=93){a:Nat}(g k:Nat)(w:World)(d:w.cell? ⟨g,0,none⟩=some (.iface y u)): Calls prog 113 #[.slice (some ⟨g,0,none⟩) 2 a,.pointer (some ⟨k,0,none⟩)] w fun e w'=>e= .returned (.tuple #[.nilIface,.string ⟨#[116,121,112,101]⟩])/\Below w.heap.size w w':=by
 have j:=fun w=>Oh y u w c;go_enter func113,ntmps113;go_wp2;go_ret2;first|exact⟨rfl,X5 _ _⟩|exact⟨rfl,bA _⟩|exact⟨rfl,(bA _).alloc (by simp) _⟩
theorem Y4j(f:FuncId)(a:Array Value)(w:World):Calls prog 93 #[.func (.func f) #[] a] w (VT w 158 (.func (.func f) #[] a)):=by
 have c:=Qy prog;go_enter func93,ntmps93;go_wp2;refine X7 (v:=Xt 2 158 w.heap.size) (by simp[results,results93,go_sem,Xt]) rfl ⟨rfl,?_,?_,by simp;omega⟩
 .exact(((X5 (w.heap.size+1) (w.alloc (.cells #[.func (.func f) #[] a] 170))).alloc (by simp) _).cell (p:=⟨w.heap.size,0,none⟩) (XI _)).trans (by simp)
 .exact(bA _).alloc (by simp) _
theorem Y4k(f:FuncId)(q:Nat)(c:TypeId)(j:Value)(u:DTy c)(d:TypeId)(l:Value)(v:DTy d){n:Nat}(g k:Nat)(K:Value->ByteArray->World->Prop)(w:World)(y:w.cell? ⟨g,0,none⟩=some (.iface c j))(z:w.cell? ⟨g,1,none⟩=some (.iface d l))(A:w.cell? ⟨k,0,none⟩=some (.func (.func f) #[] #[.pointer (some ⟨q,0,none⟩)]))(_hg:g<w.heap.size)(_hkl:k<w.heap.size)(t:∀a w,(callFunc f a).run prog w= .ok (.enter f a) w)(m:Hid (∀W,BL w W->Calls prog f #[.iface c j,.iface d l,.pointer (some ⟨q,0,none⟩)] W (YF K))): Calls prog 158 #[.slice (some ⟨g,0,none⟩) 2 n,.pointer (some ⟨k,0,none⟩)] w (YF K):=by
 have B:=fun w=>Fe c j w u;have C:=fun w=>Fe d l w v;go_enter func158,ntmps158;go_wp2_with fail;refine(m.o _ (X5 w.heap.size w)).mono ?_;rintro e w'⟨dv,s,rfl,r⟩;go_wp2;go_ret2;exact⟨dv,s,rfl,r⟩
end Go.Proofs.YtkoiikmhfaebnaaGreatDoor.Vl
namespace Go.Proofs.YtkoiikmhfaebnaaGreatDoor.Vl
open Tryz Go.RowKit T.atoms T.ok T.high T.Y0 T.Ko Xs T.ord
theorem Oc{P:Program}{c:Array Oper}{o:Oper}{a:Act}{w:World}{K:Act->World->Prop}{Q:Exit->Act->World->Prop}{E:Prop}(s:o.guard=none)(f:FuncId)(x y:Operand)(t u:TypeId)(k:o.op=Op.call {callee:=Callee.value (Operand.func f),args:=#[x,y],argTypes:=#[t,u]})(v d r:Value)(A:a.eval x=v)(B:a.eval y=d)(fn:Func)(j:P.funcs[f]?=some fn)(hne:(fn.name == "runtime.NumGoroutine")=false)(g:fn.body.isNone=false)(R:World->Prop)(n:Calls P f #[v,d] w fun e w'=>e= .returned r/\R w')(q:∀w',R w'->K (a.put o.dst r) w'): if Region.wanted o (yielded c a.tmps)=true then Oper.wp P o a w K Q else E:=by
 have z:Region.wanted o (yielded c a.tmps)=true:=by simp[Region.wanted,s]
 rw[X3 z];have l:(callFunc f #[v,d]).run P w= .ok (.enter f #[v,d]) w:=by
  simp only[callFunc,Zk,Wk,Zj,j,hne,g];rfl
 unfold Oper.wp;simp only[execOp,k,resolve,invoke,KP,Xu,Yc,A,B,Deferred.ofValue,Zk];rw[show a.eval (Operand.func f)=Value.func (Fn.func f) #[] #[]from rfl];simp only[QM,Zj];simp[l];refine n.mono fun e C h=>?_;obtain⟨rfl,m⟩:=h;exact q _ m
theorem Gy{w:World}{b:Nat}{x y u v:Value}(a:w.cell? ⟨b,0,none⟩=some u)(c:w.cell? ⟨b,1,none⟩=some v):((w.setCell ⟨b,0,none⟩ x).setCell ⟨b,1,none⟩ y).cell? ⟨b,0,none⟩=some x/\((w.setCell ⟨b,0,none⟩ x).setCell ⟨b,1,none⟩ y).cell? ⟨b,1,none⟩=some y:=by
 constructor
 .rw[Zs _ _ _ _ (by intro h;cases h)];exact JM _ _ _ a
 .exact JM _ _ _ (by rw[Zs _ _ _ _ (by intro h;cases h)];exact c)
abbrev Out:=Sum (List UInt8) T
def Out.BU:Out->Prop
 | .inl l=>l≠[]
 | .inr _=>True
def DoK(W:World):Out->Value->ByteArray->World->Prop
 | .inl l,dv,s,w'=>Below W.heap.size W w'/\dv= .nilIface/\s=⟨l.toArray⟩
 | .inr t,dv,s,w'=>Below W.heap.size W w'/\s=⟨#[]⟩/\t.Y0=true/\t.count<=1000/\∃x,Xs w' x t dv
theorem DoK.from{W c w':World}{out:Out}{dv:Value}{s:ByteArray}(a:BL W c)(h:DoK c out dv s w'):DoK W out dv s w':=by
 cases out with
 | inl l=>exact⟨a.trans (h.1.mono a.size),h.2⟩
 | inr t=>exact⟨a.trans (h.1.mono a.size),h.2⟩
theorem Od{P:Program}{c:Array Oper}{o:Oper}{a:Act}{w:World}{K:Act->World->Prop}{Q:Exit->Act->World->Prop}{E:Prop}(m:o.guard=none)(f:FuncId)(y x:Operand)(t:TypeId)(d:o.op=Op.call {callee:=Callee.value y,args:=#[x],argTypes:=#[t]})(v r:Value)(s:a.eval y= .func (.func f) #[] #[])(q:a.eval x=v)(g:∀args w,(callFunc f args).run P w= .ok (.enter f args) w)(R:World->Prop)(k:Calls P f #[v] w fun e w'=>e= .returned r/\R w')(l:∀w',R w'->K (a.put o.dst r) w'): if Region.wanted o (yielded c a.tmps)=true then Oper.wp P o a w K Q else E:=by
 have n:Region.wanted o (yielded c a.tmps)=true:=by simp[Region.wanted,m]
 rw[X3 n];unfold Oper.wp;simp only[execOp,d,resolve,invoke,KP,Xu,Yc,q,s,Deferred.ofValue,Zk,QM,Zj];simp[g];refine k.mono fun e u h=>?_;obtain⟨rfl,j⟩:=h;exact l _ j
theorem X2t(v:TypeId)(u:Value)(z:TypeId)(y:Value)(h q:Nat)(l:Int->Bool)(d:Int)(w:World)(r:∀a w,(callFunc h a).run prog w= .ok (.enter h a) w)(D:Hid (∀n w,Calls prog h #[.int .i64 n] w fun e w'=>e= .returned (.bool (l n))/\w'=w))(F:q<w.heap.size)(E:w.cell? ⟨q,0,none⟩=some (.func (.func h) #[] #[]))(C:Hid (∀w',BL w w'->Calls prog 95 #[.iface v u,.iface z y] w' fun e t=>e= .returned (.int .i64 d)/\BL w' t)): Calls prog 94 #[.iface v u,.iface z y,.pointer (some ⟨q,0,none⟩)] w (YF fun dv s w'=>dv= .iface 73 (.bool (l d))/\s=⟨#[]⟩/\Below w.heap.size w w'):=by
 have k:=X1 F;have A:BL w w:=X5 _ _;have m:=E;have g:=X1 A;have j:=X1 m;clear A;go_enter func94,ntmps94;go_wp2_with fail;go_region_held3 (fun w'=>w'.cell? ⟨q,0,none⟩=some (.func (.func h) #[] #[])) (go_keep) (first
  | (refine Oc rfl 95 (.tmp 8) (.tmp 9) 75 75 rfl (.iface v u) (.iface z y) (.int .i64 d) (by simp[Act.eval]) (by simp[Act.eval]) f95 func95 (by kernel_rfl) (by kernel_rfl) _ (C.o _ g.o.drew) ?_;intro w1 c;have c1:=(c.cell (p:=⟨q,0,none⟩) (Xd k.o g.o.size)).trans j.o)
  | (refine Od rfl h (.tmp 7) (.tmp 10) 3 rfl (.int .i64 d) (.bool (l d)) (by simp[Act.eval]) (by simp[Act.eval]) r _ (D.o d _) ?_;rintro H rfl))
 have B:=g.o.drew.trans (c.mono g.o.drew.size);clear c c1;go_wp2;go_ret2;exact⟨_,_,rfl,rfl,rfl,B⟩
theorem Wv(W:World)(a b:Value)(t:TypeId):∀j v,([a,b]:List Value)[j]?=some v->(W.alloc (.cells #[a,b] t)).cell? ⟨W.heap.size,j,none⟩=some v:=by
 intro j v h;rw[World.cell?,heap_alloc_new];simpa using h
theorem G6(W:World)(a b:Value)(t:TypeId):∀j,(W.alloc (.cells #[a,b] t)).frozen? ⟨W.heap.size,j,none⟩=false:=by
 intro j;simp
theorem Bc(h:FuncId)(w:World):Calls prog 35 #[.func (.func h) #[] #[]] w fun e w'=>e= .returned (Xt 2 158 (w.heap.size+1+1))/\w'.cell? ⟨w.heap.size,0,none⟩=some (.func (.func h) #[] #[])/\w'.cell? ⟨w.heap.size+1+1,0,none⟩=some (.func (.func 94) #[] #[.pointer (some ⟨w.heap.size,0,none⟩)])/\Below w.heap.size w w'/\w.heap.size+1+1<w'.heap.size:=by
 have D:=X1 (fun W=>Y4j 94 #[.pointer (some ⟨w.heap.size,0,none⟩)] W);have I:=Qy prog;have z:BL w ((w.alloc (.cells #[.func (.func h) #[] #[]] 78)).alloc (.cells #[.int .i64 0,.nilFunc] 71)):=(bA _).alloc (by simp) _;have s:((w.alloc (.cells #[.func (.func h) #[] #[]] 78)).alloc (.cells #[.int .i64 0,.nilFunc] 71)).cell? ⟨w.heap.size,0,none⟩=some (.func (.func h) #[] #[]):=(((X5 (w.heap.size+1) (w.alloc (.cells #[.func (.func h) #[] #[]] 78))).alloc (by simp) _).cell (p:=⟨w.heap.size,0,none⟩) (XI _)).trans (by simp);have r:∀j v,([.int .i64 0,.nilFunc]:List Value)[j]?=some v->((w.alloc (.cells #[.func (.func h) #[] #[]] 78)).alloc (.cells #[.int .i64 0,.nilFunc] 71)).cell? ⟨w.heap.size+1,j,none⟩=some v:=fun j v H=>by
  have:=Wv (w.alloc (.cells #[.func (.func h) #[] #[]] 78)) (.int .i64 0) .nilFunc 71 j v H
  rwa[Xb]at this
 have C:=X1 z;have B:=X1 s;have q:=X1 r;have k:=X1 (G6 (w.alloc (.cells #[.func (.func h) #[] #[]] 78)) (.int .i64 0) .nilFunc 71);rw[Xb]at k;clear z s r;go_enter func35,ntmps35;go_wp2_with fail;refine(D.o _).mono ?_;rintro e w1⟨rfl,d,c,g⟩;simp only[Xb]at d c g;have E:=(c.cell (p:=⟨w.heap.size+1,0,none⟩) (by show w.heap.size+1<_;omega)).trans (q.o 0 _ rfl);have F:=(c.cell (p:=⟨w.heap.size+1,1,none⟩) (by show w.heap.size+1<_;omega)).trans (q.o 1 _ rfl);have K:=(c.frozen (p:=⟨w.heap.size+1,0,none⟩) (by show w.heap.size+1<_;omega)).trans (k.o 0);have L:=(c.frozen (p:=⟨w.heap.size+1,1,none⟩) (by show w.heap.size+1<_;omega)).trans (k.o 1);have l:=X1 d;have m:=X1 ((c.cell (p:=⟨w.heap.size,0,none⟩) (by show w.heap.size<_;omega)).trans B.o);have A:=C.o.trans (c.mono (by omega));have n:=g;unfold Xt;clear d c;go_wp2;obtain⟨q0,J⟩:=Gy (x:= .int .i64 2) (y:= .func (.func 158) #[] #[.pointer (some ⟨w.heap.size+1+1,0,none⟩)]) E F;have u:∀b,b≠w.heap.size+1->((w1.setCell ⟨w.heap.size+1,0,none⟩ (.int .i64 2)).setCell ⟨w.heap.size+1,1,none⟩ (.func (.func 158) #[] #[.pointer (some ⟨w.heap.size+1+1,0,none⟩)])).heap[b]?=w1.heap[b]?:=fun b t=>(Y4 _ _ _ _ t).trans (Y4 _ _ _ _ t);refine X7 (v:=Xt 2 158 (w.heap.size+1+1)) (by simp[results,results35,go_sem,Xt,q0,J]) rfl ⟨rfl,?_,?_,?_,by simpa using n⟩
 .exact(Xy (a:=⟨w.heap.size,0,none⟩) (u w.heap.size (by omega))).trans m.o
 .exact(Xy (a:=⟨w.heap.size+1+1,0,none⟩) (u (w.heap.size+1+1) (by omega))).trans l.o
 .exact(A.setCell (p:=⟨w.heap.size+1,0,none⟩) (by simp) _).setCell (p:=⟨w.heap.size+1,1,none⟩) (by simp) _
theorem X2s(u:Bool)(v:Bool)(h q:Nat)(l:Int->Bool)(d:Int)(w:World)(r:∀a w,(callFunc h a).run prog w= .ok (.enter h a) w)(B:Hid (∀n w,Calls prog h #[.int .i64 n] w fun e w'=>e= .returned (.bool (l n))/\w'=w))(D:q<w.heap.size)(C:w.cell? ⟨q,0,none⟩=some (.func (.func h) #[] #[]))(A:Hid (∀w',BL w w'->Calls prog 95 #[.iface 73 (.bool u),.iface 73 (.bool v)] w' fun e t=>e= .returned (.int .i64 d)/\BL w' t)): Calls prog 167 #[.bool u,.bool v,.pointer (some ⟨q,0,none⟩)] w (YF fun dv s w'=>dv= .iface 73 (.bool (l d))/\s=⟨#[]⟩/\Below w.heap.size w w'):=by
 have k:=X1 D;have y:BL w w:=X5 _ _;have m:=C;have g:=X1 y;have j:=X1 m;clear y;go_enter func167,ntmps167;go_wp2_with fail;go_region_held3 (fun w'=>w'.cell? ⟨q,0,none⟩=some (.func (.func h) #[] #[])) (go_keep) (first
  | (refine Oc rfl 95 (.tmp 9) (.tmp 11) 75 75 rfl (.iface 73 (.bool u)) (.iface 73 (.bool v)) (.int .i64 d) (by simp[Act.eval]) (by simp[Act.eval]) f95 func95 (by kernel_rfl) (by kernel_rfl) _ (A.o _ g.o.drew) ?_;intro w1 c;have c1:=(c.cell (p:=⟨q,0,none⟩) (Xd k.o g.o.size)).trans j.o)
  | (refine Od rfl h (.tmp 7) (.tmp 12) 3 rfl (.int .i64 d) (.bool (l d)) (by simp[Act.eval]) (by simp[Act.eval]) r _ (B.o d _) ?_;rintro E rfl))
 have z:=g.o.drew.trans (c.mono g.o.drew.size);clear c c1;go_wp2;go_ret2;exact⟨_,_,rfl,rfl,rfl,z⟩
theorem X3a(h:FuncId)(w:World):Calls prog 96 #[.func (.func h) #[] #[]] w fun e w'=>e= .returned (Xt 2 92 (w.heap.size+1+1))/\w'.cell? ⟨w.heap.size,0,none⟩=some (.func (.func h) #[] #[])/\w'.cell? ⟨w.heap.size+1+1,0,none⟩=some (.func (.func 167) #[] #[.pointer (some ⟨w.heap.size,0,none⟩)])/\Below w.heap.size w w'/\w.heap.size+1+1<w'.heap.size:=by
 have D:=X1 (fun W=>Sv 167 #[.pointer (some ⟨w.heap.size,0,none⟩)] W);have I:=Qy prog;have z:BL w ((w.alloc (.cells #[.func (.func h) #[] #[]] 78)).alloc (.cells #[.int .i64 0,.nilFunc] 71)):=(bA _).alloc (by simp) _;have s:((w.alloc (.cells #[.func (.func h) #[] #[]] 78)).alloc (.cells #[.int .i64 0,.nilFunc] 71)).cell? ⟨w.heap.size,0,none⟩=some (.func (.func h) #[] #[]):=(((X5 (w.heap.size+1) (w.alloc (.cells #[.func (.func h) #[] #[]] 78))).alloc (by simp) _).cell (p:=⟨w.heap.size,0,none⟩) (XI _)).trans (by simp);have r:∀j v,([.int .i64 0,.nilFunc]:List Value)[j]?=some v->((w.alloc (.cells #[.func (.func h) #[] #[]] 78)).alloc (.cells #[.int .i64 0,.nilFunc] 71)).cell? ⟨w.heap.size+1,j,none⟩=some v:=fun j v H=>by
  have:=Wv (w.alloc (.cells #[.func (.func h) #[] #[]] 78)) (.int .i64 0) .nilFunc 71 j v H
  rwa[Xb]at this
 have C:=X1 z;have B:=X1 s;have q:=X1 r;have k:=X1 (G6 (w.alloc (.cells #[.func (.func h) #[] #[]] 78)) (.int .i64 0) .nilFunc 71);rw[Xb]at k;clear z s r;go_enter func96,ntmps96;go_wp2_with fail;refine(D.o _).mono ?_;rintro e w1⟨rfl,d,c,g⟩;simp only[Xb]at d c g;have E:=(c.cell (p:=⟨w.heap.size+1,0,none⟩) (by show w.heap.size+1<_;omega)).trans (q.o 0 _ rfl);have F:=(c.cell (p:=⟨w.heap.size+1,1,none⟩) (by show w.heap.size+1<_;omega)).trans (q.o 1 _ rfl);have K:=(c.frozen (p:=⟨w.heap.size+1,0,none⟩) (by show w.heap.size+1<_;omega)).trans (k.o 0);have L:=(c.frozen (p:=⟨w.heap.size+1,1,none⟩) (by show w.heap.size+1<_;omega)).trans (k.o 1);have l:=X1 d;have m:=X1 ((c.cell (p:=⟨w.heap.size,0,none⟩) (by show w.heap.size<_;omega)).trans B.o);have A:=C.o.trans (c.mono (by omega));have n:=g;unfold Xt;clear d c;go_wp2;obtain⟨q0,J⟩:=Gy (x:= .int .i64 2) (y:= .func (.func 92) #[] #[.pointer (some ⟨w.heap.size+1+1,0,none⟩)]) E F;have u:∀b,b≠w.heap.size+1->((w1.setCell ⟨w.heap.size+1,0,none⟩ (.int .i64 2)).setCell ⟨w.heap.size+1,1,none⟩ (.func (.func 92) #[] #[.pointer (some ⟨w.heap.size+1+1,0,none⟩)])).heap[b]?=w1.heap[b]?:=fun b t=>(Y4 _ _ _ _ t).trans (Y4 _ _ _ _ t);refine X7 (v:=Xt 2 92 (w.heap.size+1+1)) (by simp[results,results96,go_sem,Xt,q0,J]) rfl ⟨rfl,?_,?_,?_,by simpa using n⟩
 .exact(Xy (a:=⟨w.heap.size,0,none⟩) (u w.heap.size (by omega))).trans m.o
 .exact(Xy (a:=⟨w.heap.size+1+1,0,none⟩) (u (w.heap.size+1+1) (by omega))).trans l.o
 .exact(A.setCell (p:=⟨w.heap.size+1,0,none⟩) (by simp) _).setCell (p:=⟨w.heap.size+1,1,none⟩) (by simp) _
theorem X2u(u:Int)(v:Int)(h q:Nat)(l:Int->Bool)(d:Int)(w:World)(r:∀a w,(callFunc h a).run prog w= .ok (.enter h a) w)(B:Hid (∀n w,Calls prog h #[.int .i64 n] w fun e w'=>e= .returned (.bool (l n))/\w'=w))(D:q<w.heap.size)(C:w.cell? ⟨q,0,none⟩=some (.func (.func h) #[] #[]))(A:Hid (∀w',BL w w'->Calls prog 95 #[.iface 96 (.int .i64 u),.iface 96 (.int .i64 v)] w' fun e t=>e= .returned (.int .i64 d)/\BL w' t)): Calls prog 168 #[.int .i64 u,.int .i64 v,.pointer (some ⟨q,0,none⟩)] w (YF fun dv s w'=>dv= .iface 73 (.bool (l d))/\s=⟨#[]⟩/\Below w.heap.size w w'):=by
 have k:=X1 D;have y:BL w w:=X5 _ _;have m:=C;have g:=X1 y;have j:=X1 m;clear y;go_enter func168,ntmps168;go_wp2_with fail;go_region_held3 (fun w'=>w'.cell? ⟨q,0,none⟩=some (.func (.func h) #[] #[])) (go_keep) (first
  | (refine Oc rfl 95 (.tmp 9) (.tmp 11) 75 75 rfl (.iface 96 (.int .i64 u)) (.iface 96 (.int .i64 v)) (.int .i64 d) (by simp[Act.eval]) (by simp[Act.eval]) f95 func95 (by kernel_rfl) (by kernel_rfl) _ (A.o _ g.o.drew) ?_;intro w1 c;have c1:=(c.cell (p:=⟨q,0,none⟩) (Xd k.o g.o.size)).trans j.o)
  | (refine Od rfl h (.tmp 7) (.tmp 12) 3 rfl (.int .i64 d) (.bool (l d)) (by simp[Act.eval]) (by simp[Act.eval]) r _ (B.o d _) ?_;rintro E rfl))
 have z:=g.o.drew.trans (c.mono g.o.drew.size);clear c c1;go_wp2;go_ret2;exact⟨_,_,rfl,rfl,rfl,z⟩
theorem X3b(h:FuncId)(w:World):Calls prog 97 #[.func (.func h) #[] #[]] w fun e w'=>e= .returned (Xt 2 107 (w.heap.size+1+1))/\w'.cell? ⟨w.heap.size,0,none⟩=some (.func (.func h) #[] #[])/\w'.cell? ⟨w.heap.size+1+1,0,none⟩=some (.func (.func 168) #[] #[.pointer (some ⟨w.heap.size,0,none⟩)])/\Below w.heap.size w w'/\w.heap.size+1+1<w'.heap.size:=by
 have D:=X1 (fun W=>Gx 168 #[.pointer (some ⟨w.heap.size,0,none⟩)] W);have I:=Qy prog;have z:BL w ((w.alloc (.cells #[.func (.func h) #[] #[]] 78)).alloc (.cells #[.int .i64 0,.nilFunc] 71)):=(bA _).alloc (by simp) _;have s:((w.alloc (.cells #[.func (.func h) #[] #[]] 78)).alloc (.cells #[.int .i64 0,.nilFunc] 71)).cell? ⟨w.heap.size,0,none⟩=some (.func (.func h) #[] #[]):=(((X5 (w.heap.size+1) (w.alloc (.cells #[.func (.func h) #[] #[]] 78))).alloc (by simp) _).cell (p:=⟨w.heap.size,0,none⟩) (XI _)).trans (by simp);have r:∀j v,([.int .i64 0,.nilFunc]:List Value)[j]?=some v->((w.alloc (.cells #[.func (.func h) #[] #[]] 78)).alloc (.cells #[.int .i64 0,.nilFunc] 71)).cell? ⟨w.heap.size+1,j,none⟩=some v:=fun j v H=>by
  have:=Wv (w.alloc (.cells #[.func (.func h) #[] #[]] 78)) (.int .i64 0) .nilFunc 71 j v H
  rwa[Xb]at this
 have C:=X1 z;have B:=X1 s;have q:=X1 r;have k:=X1 (G6 (w.alloc (.cells #[.func (.func h) #[] #[]] 78)) (.int .i64 0) .nilFunc 71);rw[Xb]at k;clear z s r;go_enter func97,ntmps97;go_wp2_with fail;refine(D.o _).mono ?_;rintro e w1⟨rfl,d,c,g⟩;simp only[Xb]at d c g;have E:=(c.cell (p:=⟨w.heap.size+1,0,none⟩) (by show w.heap.size+1<_;omega)).trans (q.o 0 _ rfl);have F:=(c.cell (p:=⟨w.heap.size+1,1,none⟩) (by show w.heap.size+1<_;omega)).trans (q.o 1 _ rfl);have K:=(c.frozen (p:=⟨w.heap.size+1,0,none⟩) (by show w.heap.size+1<_;omega)).trans (k.o 0);have L:=(c.frozen (p:=⟨w.heap.size+1,1,none⟩) (by show w.heap.size+1<_;omega)).trans (k.o 1);have l:=X1 d;have m:=X1 ((c.cell (p:=⟨w.heap.size,0,none⟩) (by show w.heap.size<_;omega)).trans B.o);have A:=C.o.trans (c.mono (by omega));have n:=g;unfold Xt;clear d c;go_wp2;obtain⟨q0,J⟩:=Gy (x:= .int .i64 2) (y:= .func (.func 107) #[] #[.pointer (some ⟨w.heap.size+1+1,0,none⟩)]) E F;have u:∀b,b≠w.heap.size+1->((w1.setCell ⟨w.heap.size+1,0,none⟩ (.int .i64 2)).setCell ⟨w.heap.size+1,1,none⟩ (.func (.func 107) #[] #[.pointer (some ⟨w.heap.size+1+1,0,none⟩)])).heap[b]?=w1.heap[b]?:=fun b t=>(Y4 _ _ _ _ t).trans (Y4 _ _ _ _ t);refine X7 (v:=Xt 2 107 (w.heap.size+1+1)) (by simp[results,results97,go_sem,Xt,q0,J]) rfl ⟨rfl,?_,?_,?_,by simpa using n⟩
 .exact(Xy (a:=⟨w.heap.size,0,none⟩) (u w.heap.size (by omega))).trans m.o
 .exact(Xy (a:=⟨w.heap.size+1+1,0,none⟩) (u (w.heap.size+1+1) (by omega))).trans l.o
 .exact(A.setCell (p:=⟨w.heap.size+1,0,none⟩) (by simp) _).setCell (p:=⟨w.heap.size+1,1,none⟩) (by simp) _
theorem X2z(u:ByteArray)(zs:ByteArray)(h q:Nat)(l:Int->Bool)(d:Int)(w:World)(r:∀a w,(callFunc h a).run prog w= .ok (.enter h a) w)(A:Hid (∀n w,Calls prog h #[.int .i64 n] w fun e w'=>e= .returned (.bool (l n))/\w'=w))(C:q<w.heap.size)(B:w.cell? ⟨q,0,none⟩=some (.func (.func h) #[] #[]))(z:Hid (∀w',BL w w'->Calls prog 95 #[.iface 81 (.string u),.iface 81 (.string zs)] w' fun e t=>e= .returned (.int .i64 d)/\BL w' t)): Calls prog 169 #[.string u,.string zs,.pointer (some ⟨q,0,none⟩)] w (YF fun dv s w'=>dv= .iface 73 (.bool (l d))/\s=⟨#[]⟩/\Below w.heap.size w w'):=by
 have k:=X1 C;have v:BL w w:=X5 _ _;have m:=B;have g:=X1 v;have j:=X1 m;clear v;go_enter func169,ntmps169;go_wp2_with fail;go_region_held3 (fun w'=>w'.cell? ⟨q,0,none⟩=some (.func (.func h) #[] #[])) (go_keep) (first
  | (refine Oc rfl 95 (.tmp 9) (.tmp 11) 75 75 rfl (.iface 81 (.string u)) (.iface 81 (.string zs)) (.int .i64 d) (by simp[Act.eval]) (by simp[Act.eval]) f95 func95 (by kernel_rfl) (by kernel_rfl) _ (z.o _ g.o.drew) ?_;intro w1 c;have c1:=(c.cell (p:=⟨q,0,none⟩) (Xd k.o g.o.size)).trans j.o)
  | (refine Od rfl h (.tmp 7) (.tmp 12) 3 rfl (.int .i64 d) (.bool (l d)) (by simp[Act.eval]) (by simp[Act.eval]) r _ (A.o d _) ?_;rintro D rfl))
 have y:=g.o.drew.trans (c.mono g.o.drew.size);clear c c1;go_wp2;go_ret2;exact⟨_,_,rfl,rfl,rfl,y⟩
theorem X3d(h:FuncId)(w:World):Calls prog 98 #[.func (.func h) #[] #[]] w fun e w'=>e= .returned (Xt 2 101 (w.heap.size+1+1))/\w'.cell? ⟨w.heap.size,0,none⟩=some (.func (.func h) #[] #[])/\w'.cell? ⟨w.heap.size+1+1,0,none⟩=some (.func (.func 169) #[] #[.pointer (some ⟨w.heap.size,0,none⟩)])/\Below w.heap.size w w'/\w.heap.size+1+1<w'.heap.size:=by
 have D:=X1 (fun W=>Sw 169 #[.pointer (some ⟨w.heap.size,0,none⟩)] W);have I:=Qy prog;have z:BL w ((w.alloc (.cells #[.func (.func h) #[] #[]] 78)).alloc (.cells #[.int .i64 0,.nilFunc] 71)):=(bA _).alloc (by simp) _;have s:((w.alloc (.cells #[.func (.func h) #[] #[]] 78)).alloc (.cells #[.int .i64 0,.nilFunc] 71)).cell? ⟨w.heap.size,0,none⟩=some (.func (.func h) #[] #[]):=(((X5 (w.heap.size+1) (w.alloc (.cells #[.func (.func h) #[] #[]] 78))).alloc (by simp) _).cell (p:=⟨w.heap.size,0,none⟩) (XI _)).trans (by simp);have r:∀j v,([.int .i64 0,.nilFunc]:List Value)[j]?=some v->((w.alloc (.cells #[.func (.func h) #[] #[]] 78)).alloc (.cells #[.int .i64 0,.nilFunc] 71)).cell? ⟨w.heap.size+1,j,none⟩=some v:=fun j v H=>by
  have:=Wv (w.alloc (.cells #[.func (.func h) #[] #[]] 78)) (.int .i64 0) .nilFunc 71 j v H
  rwa[Xb]at this
 have C:=X1 z;have B:=X1 s;have q:=X1 r;have k:=X1 (G6 (w.alloc (.cells #[.func (.func h) #[] #[]] 78)) (.int .i64 0) .nilFunc 71);rw[Xb]at k;clear z s r;go_enter func98,ntmps98;go_wp2_with fail;refine(D.o _).mono ?_;rintro e w1⟨rfl,d,c,g⟩;simp only[Xb]at d c g;have E:=(c.cell (p:=⟨w.heap.size+1,0,none⟩) (by show w.heap.size+1<_;omega)).trans (q.o 0 _ rfl);have F:=(c.cell (p:=⟨w.heap.size+1,1,none⟩) (by show w.heap.size+1<_;omega)).trans (q.o 1 _ rfl);have K:=(c.frozen (p:=⟨w.heap.size+1,0,none⟩) (by show w.heap.size+1<_;omega)).trans (k.o 0);have L:=(c.frozen (p:=⟨w.heap.size+1,1,none⟩) (by show w.heap.size+1<_;omega)).trans (k.o 1);have l:=X1 d;have m:=X1 ((c.cell (p:=⟨w.heap.size,0,none⟩) (by show w.heap.size<_;omega)).trans B.o);have A:=C.o.trans (c.mono (by omega));have n:=g;unfold Xt;clear d c;go_wp2;obtain⟨q0,J⟩:=Gy (x:= .int .i64 2) (y:= .func (.func 101) #[] #[.pointer (some ⟨w.heap.size+1+1,0,none⟩)]) E F;have u:∀b,b≠w.heap.size+1->((w1.setCell ⟨w.heap.size+1,0,none⟩ (.int .i64 2)).setCell ⟨w.heap.size+1,1,none⟩ (.func (.func 101) #[] #[.pointer (some ⟨w.heap.size+1+1,0,none⟩)])).heap[b]?=w1.heap[b]?:=fun b t=>(Y4 _ _ _ _ t).trans (Y4 _ _ _ _ t);refine X7 (v:=Xt 2 101 (w.heap.size+1+1)) (by simp[results,results98,go_sem,Xt,q0,J]) rfl ⟨rfl,?_,?_,?_,by simpa using n⟩
 .exact(Xy (a:=⟨w.heap.size,0,none⟩) (u w.heap.size (by omega))).trans m.o
 .exact(Xy (a:=⟨w.heap.size+1+1,0,none⟩) (u (w.heap.size+1+1) (by omega))).trans l.o
 .exact(A.setCell (p:=⟨w.heap.size+1,0,none⟩) (by simp) _).setCell (p:=⟨w.heap.size+1,1,none⟩) (by simp) _
theorem X3c(h:FuncId)(w:World):Calls prog 99 #[.func (.func h) #[] #[]] w fun e w'=>e= .returned (Xt 2 110 (w.heap.size+1+1))/\w'.cell? ⟨w.heap.size,0,none⟩=some (.func (.func h) #[] #[])/\w'.cell? ⟨w.heap.size+1+1,0,none⟩=some (.func (.func 170) #[] #[.pointer (some ⟨w.heap.size,0,none⟩)])/\Below w.heap.size w w'/\w.heap.size+1+1<w'.heap.size:=by
 have D:=X1 (fun W=>Fv 170 #[.pointer (some ⟨w.heap.size,0,none⟩)] W);have I:=Qy prog;have z:BL w ((w.alloc (.cells #[.func (.func h) #[] #[]] 78)).alloc (.cells #[.int .i64 0,.nilFunc] 71)):=(bA _).alloc (by simp) _;have s:((w.alloc (.cells #[.func (.func h) #[] #[]] 78)).alloc (.cells #[.int .i64 0,.nilFunc] 71)).cell? ⟨w.heap.size,0,none⟩=some (.func (.func h) #[] #[]):=(((X5 (w.heap.size+1) (w.alloc (.cells #[.func (.func h) #[] #[]] 78))).alloc (by simp) _).cell (p:=⟨w.heap.size,0,none⟩) (XI _)).trans (by simp);have r:∀j v,([.int .i64 0,.nilFunc]:List Value)[j]?=some v->((w.alloc (.cells #[.func (.func h) #[] #[]] 78)).alloc (.cells #[.int .i64 0,.nilFunc] 71)).cell? ⟨w.heap.size+1,j,none⟩=some v:=fun j v H=>by
  have:=Wv (w.alloc (.cells #[.func (.func h) #[] #[]] 78)) (.int .i64 0) .nilFunc 71 j v H
  rwa[Xb]at this
 have C:=X1 z;have B:=X1 s;have q:=X1 r;have k:=X1 (G6 (w.alloc (.cells #[.func (.func h) #[] #[]] 78)) (.int .i64 0) .nilFunc 71);rw[Xb]at k;clear z s r;go_enter func99,ntmps99;go_wp2_with fail;refine(D.o _).mono ?_;rintro e w1⟨rfl,d,c,g⟩;simp only[Xb]at d c g;have E:=(c.cell (p:=⟨w.heap.size+1,0,none⟩) (by show w.heap.size+1<_;omega)).trans (q.o 0 _ rfl);have F:=(c.cell (p:=⟨w.heap.size+1,1,none⟩) (by show w.heap.size+1<_;omega)).trans (q.o 1 _ rfl);have K:=(c.frozen (p:=⟨w.heap.size+1,0,none⟩) (by show w.heap.size+1<_;omega)).trans (k.o 0);have L:=(c.frozen (p:=⟨w.heap.size+1,1,none⟩) (by show w.heap.size+1<_;omega)).trans (k.o 1);have l:=X1 d;have m:=X1 ((c.cell (p:=⟨w.heap.size,0,none⟩) (by show w.heap.size<_;omega)).trans B.o);have A:=C.o.trans (c.mono (by omega));have n:=g;unfold Xt;clear d c;go_wp2;obtain⟨q0,J⟩:=Gy (x:= .int .i64 2) (y:= .func (.func 110) #[] #[.pointer (some ⟨w.heap.size+1+1,0,none⟩)]) E F;have u:∀b,b≠w.heap.size+1->((w1.setCell ⟨w.heap.size+1,0,none⟩ (.int .i64 2)).setCell ⟨w.heap.size+1,1,none⟩ (.func (.func 110) #[] #[.pointer (some ⟨w.heap.size+1+1,0,none⟩)])).heap[b]?=w1.heap[b]?:=fun b t=>(Y4 _ _ _ _ t).trans (Y4 _ _ _ _ t);refine X7 (v:=Xt 2 110 (w.heap.size+1+1)) (by simp[results,results99,go_sem,Xt,q0,J]) rfl ⟨rfl,?_,?_,?_,by simpa using n⟩
 .exact(Xy (a:=⟨w.heap.size,0,none⟩) (u w.heap.size (by omega))).trans m.o
 .exact(Xy (a:=⟨w.heap.size+1+1,0,none⟩) (u (w.heap.size+1+1) (by omega))).trans l.o
 .exact(A.setCell (p:=⟨w.heap.size+1,0,none⟩) (by simp) _).setCell (p:=⟨w.heap.size+1,1,none⟩) (by simp) _
def tyW:List UInt8:=[116,121,112,101]
def Out.Jd:Out->Bool
 | .inl l=>l==tyW
 | .inr _=>false
def KY:List Out->Out
 | []=> .inl tyW
 | o::r=>if o.Jd then KY r else o
theorem Bv:∀(l:List Out),(∀j (h:j<l.length),(l[j]).Jd=true)->KY l= .inl tyW
 | [],_=>rfl
 | o::r,h=>by
  rw[KY,X3 (show o.Jd=true from h 0 (by simp))];exact Bv r (fun j a=>h (j+1) (by simpa using a))
theorem Bw:∀(l:List Out) (i:Nat) (hi:i<l.length),(∀j (h:j<l.length),j<i->(l[j]).Jd=true)->(l[i]).Jd=false->KY l=l[i]
 | o::r,0,_,_,h=>by
  rw[KY,X2 (by rw[show(o::r)[0]=o from rfl]at h;rw[h];decide)];rfl
 | o::r,i+1,hi,h,h2=>by
  rw[KY,X3 (show o.Jd=true from h 0 (by simp) (by omega))];exact Bw r i (by simpa using hi) (fun j a c=>h (j+1) (by simpa using a) (by omega)) h2
theorem DoK.shape{W w':World}{out:Out}{dv:Value}{s:ByteArray}(h:DoK W out dv s w'):Below W.heap.size W w'/\(out.Jd=true->s=⟨#[116,121,112,101]⟩)/\(out.Jd=false->(s.toList==[116,121,112,101])=false):=by
 cases out with
 | inl l=>
  obtain⟨a,-,rfl⟩:=h;refine⟨a,fun e=>?_,fun e=>?_⟩
  .have:l=tyW:=by simpa[Out.Jd]using e
   rw[this];rfl
  .rw[VP];exact e
 | inr t=>
  obtain⟨a,rfl,-⟩:=h;exact⟨a,(fun e=>by cases e),fun _=>by decide +kernel⟩
theorem X4o(c:List (Nat × Nat))(a:List Out)(Z:a.length=c.length)(a1:c.length<=100){V:Nat}(d b X:Nat)(W:World)(Y:d<W.heap.size)(a0:W.cell? ⟨b,0,none⟩=some (.slice (some ⟨d,0,none⟩) c.length c.length))(y:∀i (h:i<c.length),W.cell? ⟨d,i*2,none⟩=some (.int .i64 2)/\W.cell? ⟨d,i*2+1,none⟩=some (.func (.func (c[i]).1) #[] #[.pointer (some ⟨(c[i]).2,0,none⟩)]))(n:∀i (h:i<c.length) args w,(callFunc (c[i]).1 args).run prog w= .ok (.enter (c[i]).1 args) w)(z:∀i (h:i<c.length) (ho:i<a.length) u,BL W u->Calls prog (c[i]).1 #[.slice (some ⟨X,0,none⟩) 2 V,.pointer (some ⟨(c[i]).2,0,none⟩)] u (YF (DoK u (a[i]'ho)))): Calls prog 100 #[.slice (some ⟨X,0,none⟩) 2 V,.pointer (some ⟨b,0,none⟩)] W (YF (DoK W (KY a))):=by
 have C:=X1 y;have H:=X1 n;have D:=X1 z;have E:=X1 (Bv a);have F:=X1 (Bw a);have S:=X1 Z;have a2:=Qy prog;clear y n z Z;go_enter func100,ntmps100;go_wp2;go_loopw[11] (fun q wr=>∃i:Nat,i<=c.length/\q= .int .i64 i/\BL W wr/\∀j (h:j<a.length),j<i->(a[j]).Jd=true) (fun q _=>c.length-(intOf q).toNat)
 case atStart=>exact⟨0,X6 _,rfl,X5 _ _,fun j _ h=>absurd h (U8 _)⟩
 case round=>
  obtain⟨i,hi,rfl,v,A⟩:=hrel;have m:=X1 A;clear A;by_cases r:i<c.length
  .obtain⟨c0,c1⟩:=C.o i r;have e0:=(v.cell (p:=⟨d,i*2,none⟩) Y).trans c0;have e1:=(v.cell (p:=⟨d,i*2+1,none⟩) Y).trans c1;have n:=H.o i r;have g:i<a.length:=by have:=S.o;omega
   have HC:=X1 (fun u hb=>D.o i r g u hb);have HX:Hid ((a[i]'g).Jd=false->KY a=a[i]'g):=X1 (F.o i g m.o);have J:Hid ((a[i]'g).Jd=true->∀j (h:j<a.length),j<i+1->(a[j]).Jd=true):=X1 (fun h j M N=>by
    rcases Nat.lt_succ_iff_lt_or_eq.1 N with q|q
    .exact m.o j M q
    .subst q;exact h)
   generalize a[i]'g=out at *;generalize(c[i]).1=f at *;generalize(c[i]).2=k at *;clear c0 c1;have hq:BL wr (wr.alloc (.cells #[.int .i64 2,.func (.func f) #[] #[.pointer (some ⟨k,0,none⟩)]] 71)):=bA _;have B:=X1 (v.trans (hq.mono v.size));clear hq;go_wp2_with fail;refine(HC.o _ B.o).mono ?_;rintro e w2⟨dv,s,rfl,K⟩;obtain⟨L,Q,P⟩:=K.shape;have B2:=B.o.trans (L.mono B.o.size);have I:=X1 (K.from B.o);clear K;cases l:out.Jd
   .have hs:=P l;have t:=X1 (HX.o l);clear Q P;go_wp2;go_ret2;exact⟨dv,s,rfl,by rw[t.o];exact I.o⟩
   .have hs:=Q l;subst hs;have t:=X1 (J.o l);clear Q P;go_wp2;go_roundw
    case rel=>exact⟨i+1,by omega,by go_num,B2,t.o⟩
    case measure=>simp[intOf];omega
  .have t:Hid (KY a= .inl tyW):=X1 (E.o (fun j M=>m.o j M (by have:=S.o;omega)));go_wp2;go_ret2;exact⟨_,_,rfl,by rw[t.o];exact⟨v,rfl,rfl⟩⟩
end Go.Proofs.YtkoiikmhfaebnaaGreatDoor.Vl
