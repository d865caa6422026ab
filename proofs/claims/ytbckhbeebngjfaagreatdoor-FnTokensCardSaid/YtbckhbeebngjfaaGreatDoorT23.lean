/- Pc, Tk3, Tk4. -/
import Derived.Test.YtbckhbeebngjfaaGreatDoorT22
import Derived.Deep.RegionHeld3
import Derived.Test.YtbckhbeebngjfaaGreatDoorT16
import Derived.Lib.AppendStr
namespace Go.Proofs.YtbckhbeebngjfaaGreatDoor
open Go.RowKit
theorem step_append_own {P:Program} {ops:Array Oper} {o:Oper} {a:Act} {w:World} {K:Act→World→Prop} {Q:Exit→Act→World→Prop} {E:Prop}
  (hgd:o.guard=none) (s x:Operand) (t:TypeId) (ho:o.op = .call {callee:= .builtin .append,args:=#[s,x],argTypes:=#[t,t]})
  (base:Nat) (e:TypeId) (i:TypeInfo) (z:Value) (size bytes:Nat) (ht:P.underlying t=some (.slice e)) (hi:P.info? e=some i) (hz:i.zero=some z)
  (hsize:i.size=size) (hby:i.bytes=bytes) (hzs:z.cells.size=size) (hsz:0 < size)
  (v:Value) (n:Nat) (xs:List Value) (hs:a.eval s=v) (hown:w.ownsRow base e size v n xs)
  (ad:Addr) (m c:Nat) (news:List Value) (hx:a.eval x = .slice (some ad) m c) (hl:news.length=m * size) (hnews:∀ j u,news[j]?=some u→w.cell? (ad.add j)=some u) (h1:∀ u∈news,u.oneCell'=true)
  (h63:n+m≤maxLen) (hbytes:(n+m) * bytes≤140737488355328) (hbase:base≤w.heap.size)
  (hK:∀ v' w',w'.ownsRow base e size v' (n+m) (xs++news)→w.grownBy w' v.ownBlock→(v' = .slice none 0 0↔v = .slice none 0 0∧m=0)→(v'.ownBlock=v.ownBlock∨v'.ownBlock=some w.heap.size)→K (a.put o.dst v') w') :
  if Region.wanted o (yielded ops a.tmps)=true then Oper.wp P o a w K Q else E:=by
 have hw:Region.wanted o (yielded ops a.tmps)=true:=by simp [Region.wanted,hgd]
 rw [if_pos hw]
 obtain ⟨v',w',hr,h2,h3,h4,h5⟩:=run_append_own_at (P:=P) w base t o.type e i z size bytes ht hi hz hsize hby hzs hsz v n xs hown ad m c news hl hnews h1 h63 hbytes hbase
 unfold Oper.wp execOp
 simp only [ho,resolve,invoke,builtin,Sem.run_bind,Sem.run_pure,Result.andThen_ok,List.map_toArray,List.map_cons,List.map_nil,hs,hx,hr]
 exact hK _ _ h2 h3 h4 h5
def Tr.hexd (n:Nat):UInt8:=if n < 10 then UInt8.ofNat (48+n) else UInt8.ofNat (87+n)
def Tr.qok (b:UInt8):Bool:=decide (32≤b.toNat∧b.toNat≤126∧b.toNat≠34∧b.toNat≠92)
def Tr.qb (b:UInt8):List UInt8:=if Tr.qok b=true then [b] else [92,Tr.hexd (b.toNat / 16),Tr.hexd (b.toNat % 16)]
def Tr.quote (l:List UInt8):List UInt8:=34 :: (l.flatMap Tr.qb++[34])
def Tr.bytesOf (t:List UInt8):List Value:=t.map fun c=>Value.int .u8 c.toNat
theorem Tr.bytesOf_app (t u:List UInt8):Tr.bytesOf (t++u)=Tr.bytesOf t++Tr.bytesOf u:=by simp [Tr.bytesOf]
theorem Tr.bytesOf_len (t:List UInt8):(Tr.bytesOf t).length=t.length:=by simp [Tr.bytesOf]
theorem Tr.strOf (t:List UInt8):strOfNums (t.map fun c=>(c.toNat:Int))=⟨t.toArray⟩:=by
 unfold strOfNums;simp [List.map_map,Function.comp_def]
theorem Tr.qb_len (b:UInt8):(Tr.qb b).length≤3:=by unfold Tr.qb;split <;> simp
theorem Tr.drop_cons (s:ByteArray) (j:Nat) (h:j < s.size):s.data.toList.drop j=s[j] :: s.data.toList.drop (j+1):=by
 have h':j < s.data.toList.length:=by simpa using h
 rw [List.drop_eq_getElem_cons h']
 congr 1
theorem Tryz.infoByte:(Tryz.prog.info? 5).map (fun i=>(i.zero,i.size,i.bytes))=some (some (.int .u8 0),1,1):=by kernel_rfl
theorem conv_row {w:World} {base g cap:Nat} {t:List UInt8} (h:w.ownsRow base 5 1 (.slice (some ⟨g,0,none⟩) t.length cap) t.length (Tr.bytesOf t)) :
  (convert 22 9 (.slice (some ⟨g,0,none⟩) t.length cap)).run Tryz.prog w = .ok (.string ⟨t.toArray⟩) w:=by
 have:=run_convert_bytes_arg (P:=Tryz.prog) w 22 5 Tryz.underlying22 Tryz.underlying5 g 0 t.length cap (t.map fun c=>(c.toNat:Int)) (by simp) (fun i hi=>by
  rw [Nat.zero_add,h.cellAt i (by omega)];simp [Tr.bytesOf,hi]) 9 Tryz.underlying9
 rw [this,Tr.strOf]
theorem row_some {W:World} {base:Nat} {e:TypeId} {size:Nat} {v:Value} {k:Nat} {xs:List Value} (h:W.ownsRow base e size v k xs) (hk:0 < k):∃ g cap,v = .slice (some ⟨g,0,none⟩) k cap:=by
 rcases h.2 with ⟨_,h0⟩ | ⟨g,cap,_,hv,_⟩
 ·omega
 ·exact ⟨g,cap,hv⟩
theorem app_bytes {w wr w1:World} {g cap k:Nat} {t u:List UInt8} {v':Value} {o:Obj} (hk:u.length=k) (hk0:0 < k) (hown:wr.ownsRow w.heap.size 5 1 (.slice (some ⟨g,0,none⟩) t.length cap) t.length (Tr.bytesOf t)) (hB:Below w.heap.size w wr)
  (hown':w1.ownsRow w.heap.size 5 1 v' (t.length+k) (Tr.bytesOf t++Tr.bytesOf u)) (hg:(wr.alloc o).grownBy w1 (Value.slice (some ⟨g,0,none⟩) t.length cap).ownBlock) :
  ∃ g' cap',v' = .slice (some ⟨g',0,none⟩) (t.length+k) cap'∧w1.ownsRow w.heap.size 5 1 (.slice (some ⟨g',0,none⟩) (t++u).length cap') (t++u).length (Tr.bytesOf (t++u))∧Below w.heap.size w w1:=by
 obtain ⟨g',cap',rfl⟩:=row_some hown' (by omega)
 refine ⟨g',cap',rfl,by rw [Tr.bytesOf_app,List.length_append,hk];exact hown',(hB.alloc hB.size _).grown hg (by have:=hB.size;simp;omega) (fun k e=>?_)⟩
 exact (hown.lt k e).1
theorem app_bytes' {w wr W w1:World} {g cap k:Nat} {t u:List UInt8} {v':Value} (hk:u.length=k) (hk0:0 < k) (hown:wr.ownsRow w.heap.size 5 1 (.slice (some ⟨g,0,none⟩) t.length cap) t.length (Tr.bytesOf t)) (hW:Below w.heap.size w W)
  (hown':w1.ownsRow w.heap.size 5 1 v' (t.length+k) (Tr.bytesOf t++Tr.bytesOf u)) (hg:W.grownBy w1 (Value.slice (some ⟨g,0,none⟩) t.length cap).ownBlock) :
  ∃ g' cap',v' = .slice (some ⟨g',0,none⟩) (t.length+k) cap'∧w1.ownsRow w.heap.size 5 1 (.slice (some ⟨g',0,none⟩) (t++u).length cap') (t++u).length (Tr.bytesOf (t++u))∧Below w.heap.size w w1:=by
 obtain ⟨g',cap',rfl⟩:=row_some hown' (by omega)
 exact ⟨g',cap',rfl,by rw [Tr.bytesOf_app,List.length_append,hk];exact hown',hW.grown hg hW.size (fun k e=>(hown.lt k e).1)⟩
theorem cell_byte3 (W:World) (a b c:UInt8):∀ (j:Nat) (u:Value),(Tr.bytesOf [a,b,c])[j]?=some u→(W.alloc (.cells #[.int .u8 a.toNat,.int .u8 b.toNat,.int .u8 c.toNat] 5)).drew.cell? ((⟨W.heap.size,0,none⟩:Addr).add j)=some u:=by
 intro j u h
 show (W.alloc (.cells #[.int .u8 a.toNat,.int .u8 b.toNat,.int .u8 c.toNat] 5)).cell? ((⟨W.heap.size,0,none⟩:Addr).add j)=some u
 match j with
 | 0=>simp [Tr.bytesOf] at h;subst h;simp [Addr.add]
 | 1=>simp [Tr.bytesOf] at h;subst h;simp [Addr.add]
 | 2=>simp [Tr.bytesOf] at h;subst h;simp [Addr.add]
 | j+3=>simp [Tr.bytesOf] at h
theorem one_bytes (t:List UInt8):∀ u∈Tr.bytesOf t,u.oneCell'=true:=by
 intro u h
 simp [Tr.bytesOf] at h
 obtain ⟨c,_,rfl⟩:=h
 simp [Value.oneCell']
theorem hexd_at (q:Nat) (h:q < 16):(⟨#[48,49,50,51,52,53,54,55,56,57,97,98,99,100,101,102]⟩:ByteArray)[q]'h=Tr.hexd q:=by
 have:∀ x:Fin 16,(⟨#[48,49,50,51,52,53,54,55,56,57,97,98,99,100,101,102]⟩:ByteArray)[x.val]'x.isLt=Tr.hexd x.val:=by decide
 exact this ⟨q,h⟩
theorem cell_byte1 (W:World) (x:Int):∀ (j:Nat) (u:Value),[Value.int .u8 x][j]?=some u→(W.alloc (.cells #[.int .u8 x] 5)).cell? ((⟨W.heap.size,0,none⟩:Addr).add j)=some u:=by
 intro j u h
 match j with
 | 0=>simp at h;subst h;simp [Addr.add]
 | j+1=>simp at h
set_option maxRecDepth 100000 in
set_option maxHeartbeats 8000000 in
theorem quote_any (s:ByteArray) (w:World) (hs:s.size≤1000000):Calls Tryz.prog 9 #[.string s] w fun e w'=>e = .returned (.string ⟨(Tr.quote s.data.toList).toArray⟩)∧Below w.heap.size w w':=by
 obtain ⟨i0,hi,hz0,hz1,hz2⟩:=info_parts Tryz.infoByte
 go_enter Tryz.func9,Tryz.ntmps9
 go_wp2
 go_loopw [3,5] (fun v i wr=>∃ (j:Nat) (t:List UInt8) (g cap:Nat),j≤s.size∧i = .int .i64 j∧v = .slice (some ⟨g,0,none⟩) t.length cap∧wr.ownsRow w.heap.size 5 1 (.slice (some ⟨g,0,none⟩) t.length cap) t.length (Tr.bytesOf t)∧Below w.heap.size w wr∧t.length≤1+3 * j ∧
   t++((s.data.toList.drop j).flatMap Tr.qb++[34])=Tr.quote s.data.toList) (fun _ i _=>s.size - (intOf i).toNat)
 case atStart =>
  exact ⟨0,[34],w.heap.size,1,Nat.zero_le _,rfl,rfl,World.ownsRow_lit w #[.int .u8 34] 1 (Nat.le_refl _) (by decide) rfl,bA _,by simp,rfl⟩
 case round =>
  obtain ⟨j,t,g,cap,hj,rfl,rfl,hown,hB,htl,he⟩:=hrel
  have HE:=hide he
  clear he
  have hsz:=hB.size
  by_cases hlt:j < s.size
  ·have hd:=hide (Tr.drop_cons s j hlt)
   have h256:s[j].toNat < 256:=UInt8.toNat_lt _
   by_cases hq:Tr.qok s[j]=true
   ·have hb:32≤s[j].toNat∧s[j].toNat≤126∧s[j].toNat≠34∧s[j].toNat≠92:=by simpa [Tr.qok] using hq
    have HQ:=hide (show Tr.qb s[j]=[s[j]] by unfold Tr.qb;rw [if_pos hq])
    obtain ⟨b1,b2,b3,b4⟩:=hb
    have c1:(32:Int)≤(s[j].toNat:Int):=by omega
    have c2:(s[j].toNat:Int)≤126:=by omega
    have c3:((s[j].toNat:Int) != 34)=true:=by simp;omega
    have c4:((s[j].toNat:Int) != 92)=true:=by simp;omega
    go_wp2_with (at_builtin;refine wpList_append_own _ rfl _ _ 22 rfl w.heap.size 5 i0 (.int .u8 0) 1 1 Tryz.underlying22 hi hz0 hz1 hz2 rfl (by decide) _ _ _ rfl (hown.alloc _) ⟨wr.heap.size,0,none⟩ 1 1 [.int .u8 s[j].toNat] rfl rfl (cell_byte1 _ _) (by simp [Value.oneCell']) ?_ ?_ ?_ ?_)
    ·unfold maxLen;omega
    ·omega
    ·first | omega | (simp;omega)
    ·intro v' w1 hown' hgrow _
     obtain ⟨g',cap',rfl,ho2,hb2⟩:=app_bytes (u:=[s[j]]) (k:=1) rfl (by decide) hown hB hown' hgrow
     clear hown' hgrow hown
     go_wp2
     go_roundw
     case rel =>
      refine ⟨j+1,t++[s[j]],g',cap',by omega,by go_num,by simp,ho2,hb2,by simp;omega,?_⟩
      rw [← HE.out,hd.out,List.flatMap_cons,HQ.out];simp
     case measure=>simp [intOf];omega
   ·have hb:s[j].toNat < 32∨(32≤s[j].toNat∧126 < s[j].toNat)∨(32≤s[j].toNat∧s[j].toNat≤126∧s[j].toNat=34)∨(32≤s[j].toNat∧s[j].toNat≤126∧s[j].toNat≠34∧s[j].toNat=92):=by
     simp [Tr.qok] at hq;omega
    have HQ:=hide (show Tr.qb s[j]=[92,Tr.hexd (s[j].toNat / 16),Tr.hexd (s[j].toNat % 16)] by unfold Tr.qb;rw [if_neg hq])
    clear hq
    obtain ⟨q,eq⟩:∃ q,s[j].toNat / 16=q:=⟨_,rfl⟩
    obtain ⟨r,er⟩:∃ r,s[j].toNat % 16=r:=⟨_,rfl⟩
    have hq16:q < 16:=by omega
    have hr16:r < 16:=by omega
    have e1:(s[j].toNat:Int) / 16=(q:Int):=by omega
    have e2:(s[j].toNat:Int).tmod 16=(r:Int):=by rw [Int.tmod_eq_emod_of_nonneg (by omega)];omega
    have e4:IntKind.u8.wrap (q:Int)=(q:Int):=by rw [IntKind.wrap_u8];omega
    have e5:IntKind.u8.wrap (r:Int)=(r:Int):=by rw [IntKind.wrap_u8];omega
    have f1:=hexd_at q hq16
    have f2:=hexd_at r hr16
    have HO:=hide ((hown.alloc (.cells #[.int .u8 (92:UInt8).toNat,.int .u8 (Tr.hexd q).toNat,.int .u8 (Tr.hexd r).toNat] 5)).drew)
    have HW:=hide ((hB.alloc hB.size (.cells #[.int .u8 (92:UInt8).toNat,.int .u8 (Tr.hexd q).toNat,.int .u8 (Tr.hexd r).toNat] 5)).drew)
    have HZ:=hide HW.out.size
    have HOW:=hide hown
    rw [eq,er] at HQ
    clear hown
    rcases hb with hb | hb | hb | hb
    ·have d1:¬ ((32:Int)≤(s[j].toNat:Int)):=by omega
     go_wp2_with fail
     go_region_held3 (fun _=>True) (trivial) ((refine step_append_own rfl (.tmp 41) (.tmp 54) 22 rfl w.heap.size 5 i0 (.int .u8 0) 1 1 Tryz.underlying22 hi hz0 hz1 hz2 rfl (by decide) (.slice (some ⟨g,0,none⟩) t.length cap) t.length (Tr.bytesOf t) (by simp [Act.eval]) HO.out ⟨wr.heap.size,0,none⟩ 3 3 (Tr.bytesOf [92,Tr.hexd q,Tr.hexd r]) (by simp [Act.eval]) rfl (cell_byte3 wr 92 (Tr.hexd q) (Tr.hexd r)) (one_bytes _) (by unfold maxLen;omega) (by omega) HZ.out ?_;intro v' w1 hown' hgrow _ _))
     all_goals
      obtain ⟨g',cap',rfl,ho2,hb2⟩:=app_bytes' (u:=[92,Tr.hexd q,Tr.hexd r]) (k:=3) rfl (by decide) HOW.out HW.out hown' hgrow
      clear hown' hgrow
      go_wp2
      go_roundw
      case rel =>
       refine ⟨j+1,t++[92,Tr.hexd q,Tr.hexd r],g',cap',by omega,by go_num,by simp,ho2,hb2,by simp;omega,?_⟩
       rw [← HE.out,hd.out,List.flatMap_cons,HQ.out];simp
      case measure=>simp [intOf];omega
    ·have d1:(32:Int)≤(s[j].toNat:Int):=by omega
     have d2:¬ ((s[j].toNat:Int)≤126):=by omega
     go_wp2_with fail
     go_region_held3 (fun _=>True) (trivial) ((refine step_append_own rfl (.tmp 41) (.tmp 54) 22 rfl w.heap.size 5 i0 (.int .u8 0) 1 1 Tryz.underlying22 hi hz0 hz1 hz2 rfl (by decide) (.slice (some ⟨g,0,none⟩) t.length cap) t.length (Tr.bytesOf t) (by simp [Act.eval]) HO.out ⟨wr.heap.size,0,none⟩ 3 3 (Tr.bytesOf [92,Tr.hexd q,Tr.hexd r]) (by simp [Act.eval]) rfl (cell_byte3 wr 92 (Tr.hexd q) (Tr.hexd r)) (one_bytes _) (by unfold maxLen;omega) (by omega) HZ.out ?_;intro v' w1 hown' hgrow _ _))
     all_goals
      obtain ⟨g',cap',rfl,ho2,hb2⟩:=app_bytes' (u:=[92,Tr.hexd q,Tr.hexd r]) (k:=3) rfl (by decide) HOW.out HW.out hown' hgrow
      clear hown' hgrow
      go_wp2
      go_roundw
      case rel =>
       refine ⟨j+1,t++[92,Tr.hexd q,Tr.hexd r],g',cap',by omega,by go_num,by simp,ho2,hb2,by simp;omega,?_⟩
       rw [← HE.out,hd.out,List.flatMap_cons,HQ.out];simp
      case measure=>simp [intOf];omega
    ·have d1:(32:Int)≤(s[j].toNat:Int):=by omega
     have d2:(s[j].toNat:Int)≤126:=by omega
     have d3:((s[j].toNat:Int) != 34)=false:=by simp;omega
     obtain rfl:q=2:=by omega
     obtain rfl:r=2:=by omega
     go_wp2_with fail
     go_region_held3 (fun _=>True) (trivial) ((refine step_append_own rfl (.tmp 41) (.tmp 54) 22 rfl w.heap.size 5 i0 (.int .u8 0) 1 1 Tryz.underlying22 hi hz0 hz1 hz2 rfl (by decide) (.slice (some ⟨g,0,none⟩) t.length cap) t.length (Tr.bytesOf t) (by simp [Act.eval]) HO.out ⟨wr.heap.size,0,none⟩ 3 3 (Tr.bytesOf [92,Tr.hexd 2,Tr.hexd 2]) (by simp [Act.eval]) rfl (cell_byte3 wr 92 (Tr.hexd 2) (Tr.hexd 2)) (one_bytes _) (by unfold maxLen;omega) (by omega) HZ.out ?_;intro v' w1 hown' hgrow _ _))
     all_goals
      obtain ⟨g',cap',rfl,ho2,hb2⟩:=app_bytes' (u:=[92,Tr.hexd 2,Tr.hexd 2]) (k:=3) rfl (by decide) HOW.out HW.out hown' hgrow
      clear hown' hgrow
      go_wp2
      go_roundw
      case rel =>
       refine ⟨j+1,t++[92,Tr.hexd 2,Tr.hexd 2],g',cap',by omega,by go_num,by simp,ho2,hb2,by simp;omega,?_⟩
       rw [← HE.out,hd.out,List.flatMap_cons,HQ.out];simp
      case measure=>simp [intOf];omega
    ·have d1:(32:Int)≤(s[j].toNat:Int):=by omega
     have d2:(s[j].toNat:Int)≤126:=by omega
     have d3:((s[j].toNat:Int) != 34)=true:=by simp;omega
     have d4:((s[j].toNat:Int) != 92)=false:=by simp;omega
     obtain rfl:q=5:=by omega
     obtain rfl:r=12:=by omega
     go_wp2_with fail
     go_region_held3 (fun _=>True) (trivial) ((refine step_append_own rfl (.tmp 41) (.tmp 54) 22 rfl w.heap.size 5 i0 (.int .u8 0) 1 1 Tryz.underlying22 hi hz0 hz1 hz2 rfl (by decide) (.slice (some ⟨g,0,none⟩) t.length cap) t.length (Tr.bytesOf t) (by simp [Act.eval]) HO.out ⟨wr.heap.size,0,none⟩ 3 3 (Tr.bytesOf [92,Tr.hexd 5,Tr.hexd 12]) (by simp [Act.eval]) rfl (cell_byte3 wr 92 (Tr.hexd 5) (Tr.hexd 12)) (one_bytes _) (by unfold maxLen;omega) (by omega) HZ.out ?_;intro v' w1 hown' hgrow _ _))
     all_goals
      obtain ⟨g',cap',rfl,ho2,hb2⟩:=app_bytes' (u:=[92,Tr.hexd 5,Tr.hexd 12]) (k:=3) rfl (by decide) HOW.out HW.out hown' hgrow
      clear hown' hgrow
      go_wp2
      go_roundw
      case rel =>
       refine ⟨j+1,t++[92,Tr.hexd 5,Tr.hexd 12],g',cap',by omega,by go_num,by simp,ho2,hb2,by simp;omega,?_⟩
       rw [← HE.out,hd.out,List.flatMap_cons,HQ.out];simp
      case measure=>simp [intOf];omega
  ·have HF:=hide (show t++[34]=Tr.quote s.data.toList by rw [← HE.out,List.drop_of_length_le (by simp;omega)];rfl)
   go_wp2_with (at_builtin;refine wpList_append_own _ rfl _ _ 22 rfl w.heap.size 5 i0 (.int .u8 0) 1 1 Tryz.underlying22 hi hz0 hz1 hz2 rfl (by decide) _ _ _ rfl (hown.alloc _) ⟨wr.heap.size,0,none⟩ 1 1 [.int .u8 34] rfl rfl (cell_byte1 _ _) (by simp [Value.oneCell']) ?_ ?_ ?_ ?_)
   ·unfold maxLen;omega
   ·omega
   ·first | omega | (simp;omega)
   ·intro v' w1 hown' hgrow _
    obtain ⟨g',cap',rfl,ho2,hb2⟩:=app_bytes (u:=[34]) (k:=1) rfl (by decide) hown hB hown' hgrow
    clear hown' hgrow hown
    have hcv:=conv_row ho2
    rw [List.length_append,List.length_singleton] at hcv
    go_wp2
    go_ret
    exact ⟨by rw [← HF.out];rfl,hb2⟩
structure Ink (w:World) (pb tg tc kg kc:Nat) (ns:List Tr.Nd) (ks:List (List Nat)):Prop where
 pl:pb < w.heap.size
 c0:w.cell? ⟨pb,0,none⟩=some (.slice (some ⟨tg,0,none⟩) ns.length tc)
 c1:w.cell? ⟨pb,1,none⟩=some (.slice (some ⟨kg,0,none⟩) ks.length kc)
 nodes:NodesAt w tg ns
 kl:kg < w.heap.size
 rows:∀ k (h:k < ks.length),∃ g c,w.cell? ⟨kg,k,none⟩=some (.slice (some ⟨g,0,none⟩) (ks[k]).length c)∧IntsAt w g 0 ks[k]∧(ks[k]).length≤c
theorem Ink.below {w w':World} {pb tg tc kg kc:Nat} {ns:List Tr.Nd} {ks:List (List Nat)} (h:Ink w pb tg tc kg kc ns ks) (hb:Below w.heap.size w w'):Ink w' pb tg tc kg kc ns ks:=by
 refine ⟨Nat.lt_of_lt_of_le h.pl hb.size,(hb.cell (p:=⟨pb,0,none⟩) h.pl).trans h.c0,(hb.cell (p:=⟨pb,1,none⟩) h.pl).trans h.c1,h.nodes.below hb,Nat.lt_of_lt_of_le h.kl hb.size,fun k hk=>?_⟩
 obtain ⟨g,c,a,b,d⟩:=h.rows k hk
 exact ⟨g,c,(hb.cell (p:=⟨kg,k,none⟩) h.kl).trans a,b.below hb,d⟩
def Says (w0:World) (f:FuncId) (args:Array Value) (S:ByteArray):Prop:=∀ w,Below w0.heap.size w0 w→Calls Tryz.prog f args w fun e w'=>e = .returned (.string S)∧Below w.heap.size w w'
theorem Says.below {w0 w1:World} {f:FuncId} {args:Array Value} {S:ByteArray} (h:Says w0 f args S) (hb:Below w0.heap.size w0 w1):Says w1 f args S:=fun w hw=>h w (hb.trans (hw.mono hb.size))
theorem Says.kb {w0 w1:World} {f:FuncId} {args:Array Value} {S:ByteArray} (h:Says w0 f args S) (hb:Below w0.heap.size w0 w1) (q:KB w1) :
  Calls Tryz.prog f args q.w fun e w''=>e = .returned (.string S)∧∃ q':KB w1,w''=q'.w:=kb_call (h.below hb) q
theorem sz_add (a b:ByteArray):(a++b).size=a.size+b.size:=ByteArray.size_append
variable (w0:World) (pb tg tc kg kc:Nat) (ns:List Tr.Nd) (ks:List (List Nat))
set_option maxRecDepth 100000 in
set_option maxHeartbeats 4000000 in
theorem inkE_any (hI:Ink w0 pb tg tc kg kc ns ks) (k:Nat) (rank:Int) (S:ByteArray) (hk:k < ns.length) (hs:S.size≤100000000) (hS:Says w0 36 #[.pointer (some ⟨pb,0,none⟩),.int .i64 k] S) :
  ∃ S',S'.size≤S.size+2∧Says w0 53 #[.pointer (some ⟨pb,0,none⟩),.int .i64 k,.int .i64 rank] S':=by
 have HI:=hide hI
 have HS:=hide hS
 clear hI hS
 cases hr:decide (Tr.rankOf ns[k].kind ns[k].op < rank)
 ·refine ⟨S,by omega,fun w hw=>?_⟩
  have hr1:¬ Tr.rankOf ns[k].kind ns[k].op < rank:=by simpa using hr
  have HP:=hide (HS.out w hw)
  go_enter Tryz.func53,Tryz.ntmps53
  go_wp2_with fail
  refine HP.out.mono ?_
  rintro e w1 ⟨rfl,b1⟩
  have HJ:=hide (HI.out.below (hw.trans (b1.mono hw.size)))
  have HB:=hide b1
  clear b1
  have c0:=HJ.out.c0
  obtain ⟨n0,n1,n2,n3,n4⟩:=HJ.out.nodes.2 k hk
  go_wp2_with fail
  refine (rankOf_any _ _ _ _ _ _).mono ?_
  rintro e w2 ⟨rfl,b2⟩
  go_wp2
  go_ret
  exact ⟨rfl,HB.out.trans (b2.mono HB.out.size)⟩
 ·refine ⟨⟨#[40]⟩++S++⟨#[41]⟩,by rw [sz_add,sz_add];have e1:(⟨#[40]⟩:ByteArray).size=1:=rfl;have e2:(⟨#[41]⟩:ByteArray).size=1:=rfl;omega,fun w hw=>?_⟩
  have hr1:Tr.rankOf ns[k].kind ns[k].op < rank:=by simpa using hr
  have HP:=hide (HS.out w hw)
  go_enter Tryz.func53,Tryz.ntmps53
  go_wp2_with fail
  refine HP.out.mono ?_
  rintro e w1 ⟨rfl,b1⟩
  have HJ:=hide (HI.out.below (hw.trans (b1.mono hw.size)))
  have HB:=hide b1
  clear b1
  have c0:=HJ.out.c0
  obtain ⟨n0,n1,n2,n3,n4⟩:=HJ.out.nodes.2 k hk
  go_wp2_with fail
  refine (rankOf_any _ _ _ _ _ _).mono ?_
  rintro e w2 ⟨rfl,b2⟩
  go_wp2
  go_ret
  exact ⟨rfl,HB.out.trans (b2.mono HB.out.size)⟩
theorem sz2:(⟨#[44,32]⟩:ByteArray).size=2:=rfl
def Tr.joined (f:Nat→List UInt8) (ls:List Nat):Nat→List UInt8
 | 0=>[]
 | i+1=>Tr.joined f ls i++(if i=0 then [] else [44,32])++f (ls[i]?.getD 0)
theorem conv_any {w:World} {base:Nat} {v:Value} {t:List UInt8} (h:w.ownsRow base 5 1 v t.length (Tr.bytesOf t)) (hv:v≠ .slice none 0 0) :
  ∃ g cap,v = .slice (some ⟨g,0,none⟩) t.length cap:=by
 rcases h.2 with ⟨e,_⟩ | ⟨g,cap,_,e,_⟩
 ·exact absurd e hv
 ·exact ⟨g,cap,e⟩
theorem strCells_list (S:ByteArray):Lib.strCells S=Tr.bytesOf S.data.toList:=by simp [Lib.strCells,Tr.bytesOf]
theorem app_text {w W w1:World} {g cap:Nat} {t:List UInt8} {S:ByteArray} {v':Value} (hown:W.ownsRow w.heap.size 5 1 (.slice (some ⟨g,0,none⟩) t.length cap) t.length (Tr.bytesOf t)) (hW:Below w.heap.size w W)
  (hown':w1.ownsRow w.heap.size 5 1 v' (t.length+S.size) (Tr.bytesOf t++Lib.strCells S)) (hg:W.grownBy w1 (Value.slice (some ⟨g,0,none⟩) t.length cap).ownBlock) (hn:¬ v' = .slice none 0 0) :
  ∃ g' cap',v' = .slice (some ⟨g',0,none⟩) (t++S.data.toList).length cap'∧w1.ownsRow w.heap.size 5 1 (.slice (some ⟨g',0,none⟩) (t++S.data.toList).length cap') (t++S.data.toList).length (Tr.bytesOf (t++S.data.toList))∧Below w.heap.size w w1:=by
 have e:S.size=S.data.toList.length:=Array.length_toList.symm
 have e2:t.length+S.size=(t++S.data.toList).length:=by rw [List.length_append,e]
 rw [e2,strCells_list,← Tr.bytesOf_app] at hown'
 obtain ⟨g',cap',rfl⟩:=conv_any hown' hn
 exact ⟨g',cap',rfl,hown',hW.grown hg hW.size (fun k e=>(hown.lt k e).1)⟩
set_option maxRecDepth 100000 in
set_option maxHeartbeats 4000000 in
theorem inkList_any (f:Nat→ByteArray) (ls:List Nat) (g o c:Nat) (hl:ls.length≤5000) (hi:IntsAt w0 g o ls) (hm:∀ y∈ls,(f y).size≤20000000) (hT:∀ i≤ls.length,(Tr.joined (fun y=>(f y).data.toList) ls i).length≤40000000)
  (hS:∀ y∈ls,Says w0 36 #[.pointer (some ⟨pb,0,none⟩),.int .i64 y] (f y)) :
  Says w0 55 #[.pointer (some ⟨pb,0,none⟩),.slice (some ⟨g,o,none⟩) ls.length c] ⟨(Tr.joined (fun y=>(f y).data.toList) ls ls.length).toArray⟩:=by
 intro w hw
 obtain ⟨i0,hii,hz0,hz1,hz2⟩:=info_parts Tryz.infoByte
 have HS:=hide hS
 have HM:=hide hm
 have HT:=hide hT
 have HII:=hide (fun W (hb:Below w.heap.size w W)=>hi.below (hw.trans (hb.mono hw.size)))
 have HW:=hide (fun W (hb:Below w.heap.size w W)=>hw.trans (hb.mono hw.size))
 clear hS hm hT hi hw
 go_enter Tryz.func55,Tryz.ntmps55
 go_wp2
 go_loopw [5,6] (fun v i wr=>∃ (j gt cap:Nat) (t:List UInt8),j≤ls.length∧i = .int .i64 j∧v = .slice (some ⟨gt,0,none⟩) t.length cap∧wr.ownsRow w.heap.size 5 1 (.slice (some ⟨gt,0,none⟩) t.length cap) t.length (Tr.bytesOf t)∧Below w.heap.size w wr∧t=Tr.joined (fun y=>(f y).data.toList) ls j) (fun _ i _=>ls.length - (intOf i).toNat)
 case atStart =>
  exact ⟨0,w.heap.size,0,[],Nat.zero_le _,rfl,rfl,World.ownsRow_lit w #[] 0 (Nat.le_refl _) (by decide) rfl,bA _,rfl⟩
 case round =>
  obtain ⟨j,gt,cap,t,hj,rfl,rfl,hown,hB,he⟩:=hrel
  have HE:=hide he
  have htl:t.length≤40000000:=by rw [he];exact HT.out j hj
  clear he
  by_cases hlt:j < ls.length
  ·have hmem:ls[j]∈ls:=List.getElem_mem hlt
   have hfs:=HM.out _ hmem
   have HC:=hide (HS.out _ hmem)
   have HJ:Hid (Tr.joined (fun y=>(f y).data.toList) ls (j+1)=Tr.joined (fun y=>(f y).data.toList) ls j++(if j=0 then [] else [44,32])++(f ls[j]).data.toList):=hide (by rw [Tr.joined];simp [hlt])
   obtain ⟨y,hy⟩:∃ y,ls[j]=y:=⟨_,rfl⟩
   rw [hy] at hfs HC HJ
   clear hmem
   by_cases hj0:j=0
   ·subst hj0
    have HI0:=hide (HII.out wr hB)
    have ci:=HII.out wr hB
    have cj:=ci.2 0 hlt
    rw [hy] at cj
    simp only [Nat.add_zero] at cj
    clear ci
    have HCC:=hide (HC.out wr (HW.out wr hB))
    go_wp2_with fail
    refine HCC.out.mono ?_
    rintro e w1 ⟨rfl,b1⟩
    have O1:=row_below hown b1
    have B1:=hB.trans (b1.mono hB.size)
    clear hown b1
    go_wp2_with (at_builtin;refine Lib.wpList_append_own_string _ rfl _ _ 22 9 rfl w.heap.size 5 i0 Tryz.underlying22 Tryz.underlying9 hii hz0 hz1 hz2 _ _ _ rfl O1 (f y) rfl (by unfold maxLen;omega) (by omega) B1.size ?_)
    intro v4 w4 ho4 hg4 hn4
    obtain ⟨g6,cap6,rfl,O6,B6⟩:=app_text O1 B1 ho4 hg4 hn4
    clear ho4 hg4 O1 B1 hn4
    go_wp2
    go_roundw
    case rel=>exact ⟨1,g6,cap6,_,by omega,by go_num,rfl,O6,B6,by rw [HJ.out,HE.out];simp⟩
    case measure=>simp [intOf];omega
   ·have hj1:(0:Int) < (j:Int):=by omega
    go_wp2_with (at_builtin;refine Lib.wpList_append_own_string _ rfl _ _ 22 9 rfl w.heap.size 5 i0 Tryz.underlying22 Tryz.underlying9 hii hz0 hz1 hz2 _ _ _ rfl hown ⟨#[44,32]⟩ rfl (by unfold maxLen;rw [sz2];omega) (by rw [sz2];omega) hB.size ?_)
    intro v3 w3 ho3 hg3 hn3
    obtain ⟨g5,cap5,rfl,O5,B5⟩:=app_text hown hB ho3 hg3 hn3
    clear ho3 hg3 hown hB hn3
    have hl5:(t++(⟨#[44,32]⟩:ByteArray).data.toList).length≤40000002:=by rw [List.length_append];have:(⟨#[44,32]⟩:ByteArray).data.toList.length=2:=rfl;omega
    obtain ⟨t5,ht5⟩:∃ t5,t5=t++(⟨#[44,32]⟩:ByteArray).data.toList:=⟨_,rfl⟩
    rw [← ht5] at O5 hl5 ⊢
    have HT5:=hide ht5
    clear ht5
    have cj:=(HII.out w3 B5).2 j hlt
    rw [hy] at cj
    have HCC:=hide (HC.out w3 (HW.out w3 B5))
    go_wp2_with fail
    refine HCC.out.mono ?_
    rintro e w1 ⟨rfl,b1⟩
    have O1:=row_below O5 b1
    have B1:=B5.trans (b1.mono B5.size)
    clear O5 b1
    go_wp2_with (at_builtin;refine Lib.wpList_append_own_string _ rfl _ _ 22 9 rfl w.heap.size 5 i0 Tryz.underlying22 Tryz.underlying9 hii hz0 hz1 hz2 _ _ _ rfl O1 (f y) rfl (by unfold maxLen;omega) (by omega) B1.size ?_)
    intro v4 w4 ho4 hg4 hn4
    obtain ⟨g6,cap6,rfl,O6,B6⟩:=app_text O1 B1 ho4 hg4 hn4
    clear ho4 hg4 O1 B1 hn4
    go_wp2
    go_roundw
    case rel=>exact ⟨j+1,g6,cap6,_,by omega,by go_num,rfl,O6,B6,by rw [HJ.out,HT5.out,HE.out,if_neg hj0]⟩
    case measure=>simp [intOf];omega
  ·have hjl:j=ls.length:=by omega
   subst hjl
   have hcv:=conv_row hown
   go_wp2
   go_ret
   exact ⟨by have e:=HE.out;subst e;rfl,hB⟩
theorem node_box (w:World) (x:Tr.Nd):(w.alloc (.cells #[.int .i64 x.kind,.int .i64 x.op,.int .i64 x.n,.string x.text,.int .i64 x.kids] 82)).cell? ⟨w.heap.size,0,none⟩=some (.int .i64 x.kind)∧(w.alloc (.cells #[.int .i64 x.kind,.int .i64 x.op,.int .i64 x.n,.string x.text,.int .i64 x.kids] 82)).cell? ⟨w.heap.size,1,none⟩=some (.int .i64 x.op)∧(w.alloc (.cells #[.int .i64 x.kind,.int .i64 x.op,.int .i64 x.n,.string x.text,.int .i64 x.kids] 82)).cell? ⟨w.heap.size,2,none⟩=some (.int .i64 x.n)∧(w.alloc (.cells #[.int .i64 x.kind,.int .i64 x.op,.int .i64 x.n,.string x.text,.int .i64 x.kids] 82)).cell? ⟨w.heap.size,3,none⟩=some (.string x.text):=by simp
def Tr.catted (f:Nat→List UInt8) (ls:List Nat):Nat→List UInt8
 | 0=>[]
 | i+1=>Tr.catted f ls i++f (ls[i]?.getD 0)
theorem quote_size (s:ByteArray) (h:s.size≤1000):(⟨(Tr.quote s.data.toList).toArray⟩:ByteArray).size≤4000:=by
 have hf:∀ l:List UInt8,(l.flatMap Tr.qb).length≤3 * l.length:=by
  intro l
  induction l with
  | nil=>simp
  | cons b r ih=>have:=Tr.qb_len b;rw [List.flatMap_cons,List.length_append,List.length_cons];omega
 have e:s.data.toList.length=s.size:=Array.length_toList
 have:=hf s.data.toList
 show (Tr.quote s.data.toList).toArray.size≤4000
 rw [List.size_toArray]
 unfold Tr.quote
 rw [List.length_cons,List.length_append]
 simp only [List.length_cons,List.length_nil]
 omega
theorem ints_take {w:World} {g o:Nat} {l r:List Nat} (h:IntsAt w g o (l++r)):IntsAt w g o l:=⟨h.1,fun j hj=>by
 have:=h.2 j (by rw [List.length_append];omega)
 rw [List.getElem_append_left hj] at this
 exact this⟩
theorem mark_size (op:Nat):(⟨(Tr.markOf op).toArray⟩:ByteArray).size≤3:=by
 have h:∀ l∈Tr.marks,l.length≤3:=by decide
 show (Tr.markOf op).toArray.size≤3
 rw [List.size_toArray]
 unfold Tr.markOf
 cases hm:Tr.marks[op]? with
 | none=>simp
 | some l=>exact h l (List.mem_of_getElem? hm)
variable (w0:World) (pb:Nat)
set_option maxRecDepth 100000 in
set_option maxHeartbeats 4000000 in
theorem inkBin_any (kd nn kk:Int) (txt:ByteArray) (op:Nat) (a b g c:Nat) (S T:ByteArray) (h14:op < 15) (hi:IntsAt w0 g 0 [a,b]) (hs:S.size≤40000000) (ht:T.size≤40000000)
  (hS:Says w0 53 #[.pointer (some ⟨pb,0,none⟩),.int .i64 a,.int .i64 (if Tr.rankB op=4 then 5 else Tr.rankB op)] S) (hT:Says w0 53 #[.pointer (some ⟨pb,0,none⟩),.int .i64 b,.int .i64 (Tr.rankB op+1)] T) :
  Says w0 54 #[.pointer (some ⟨pb,0,none⟩),.agg #[.int .i64 kd,.int .i64 (op:Int),.int .i64 nn,.string txt,.int .i64 kk],.slice (some ⟨g,0,none⟩) 2 c] (S++⟨#[32]⟩++⟨(Tr.markOf op).toArray⟩++⟨#[32]⟩++T):=by
 intro w hw
 have hml:(⟨(Tr.markOf op).toArray⟩:ByteArray).size≤3:=mark_size op
 obtain ⟨x0,x1,x2,x3⟩:=node_box w ⟨kd,(op:Int),nn,txt,kk⟩
 have r1:Below w.heap.size w (w.alloc (.cells #[.int .i64 kd,.int .i64 (op:Int),.int .i64 nn,.string txt,.int .i64 kk] 82)):=bA _
 have hw1:=hw.trans (r1.mono hw.size)
 have HIS:=hide (fun q:KB (w.alloc (.cells #[.int .i64 kd,.int .i64 (op:Int),.int .i64 nn,.string txt,.int .i64 kk] 82))=>hi.below (hw1.trans (q.below.mono hw1.size)))
 have HSS:=hide (fun q=>Says.kb hS hw1 q)
 have HTT:=hide (fun q=>Says.kb hT hw1 q)
 have HMM:=hide (fun q:KB (w.alloc (.cells #[.int .i64 kd,.int .i64 (op:Int),.int .i64 nn,.string txt,.int .i64 kk] 82))=>kb_call (fun w2 _=>mark_any op w2 h14) q)
 have HRR:=hide (fun W=>rank_any (op:Int) W)
 have fo:∀ q:KB (w.alloc (.cells #[.int .i64 kd,.int .i64 (op:Int),.int .i64 nn,.string txt,.int .i64 kk] 82)),q.w.cell? ⟨w.heap.size,1,none⟩=some (.int .i64 op):=fun q=>(q.below.cell (p:=⟨w.heap.size,1,none⟩) (by simp)).trans x1
 have fa:∀ q:KB (w.alloc (.cells #[.int .i64 kd,.int .i64 (op:Int),.int .i64 nn,.string txt,.int .i64 kk] 82)),q.w.cell? ⟨g,0,none⟩=some (.int .i64 a):=fun q=>(HIS.out q).2 0 (Nat.zero_lt_succ _)
 have fb:∀ q:KB (w.alloc (.cells #[.int .i64 kd,.int .i64 (op:Int),.int .i64 nn,.string txt,.int .i64 kk] 82)),q.w.cell? ⟨g,1,none⟩=some (.int .i64 b):=fun q=>(HIS.out q).2 1 (Nat.lt_succ_self _)
 have HQ:=hide (fun q:KB (w.alloc (.cells #[.int .i64 kd,.int .i64 (op:Int),.int .i64 nn,.string txt,.int .i64 kk] 82))=>r1.trans (q.below.mono r1.size))
 haveI hne:Nonempty (KB (w.alloc (.cells #[.int .i64 kd,.int .i64 (op:Int),.int .i64 nn,.string txt,.int .i64 kk] 82))):=⟨⟨_,Below.refl _ _⟩⟩
 clear r1 hi hS hT hw hw1 x0 x2 x3 HIS
 generalize (⟨(Tr.markOf op).toArray⟩:ByteArray)=M at *
 obtain ⟨rk,hrk⟩:∃ rk,Tr.rankB op=rk:=⟨_,rfl⟩
 have hrk9:0≤rk∧rk≤9:=by rw [← hrk];unfold Tr.rankB;split <;> (try split) <;> (try split) <;> omega
 rw [hrk] at HSS HTT HRR
 have ew:IntKind.i64.wrap (rk+1)=rk+1:=by rw [IntKind.wrap_i64];omega
 cases h4:(rk == 4)
 ·rw [if_neg (by simpa using h4)] at HSS
  go_enter Tryz.func54,Tryz.ntmps54
  go_wp2_with fail
  refine (HRR.out _).mono ?_
  rintro e w1 ⟨rfl,rfl⟩
  go_wp2_with fail
  refine region_class (KB.w (w:=(w.alloc (.cells #[.int .i64 kd,.int .i64 (op:Int),.int .i64 nn,.string txt,.int .i64 kk] 82)))) (by kernel_rfl) (by kernel_rfl) ⟨⟨_,(Below.refl _ _).drew⟩,rfl⟩ ?_
  repeat (go_big_quiet_step (first
   | (go_at_call 53;first | with_reducible exact HSS.out _ | with_reducible exact HTT.out _)
   | (go_at_call 74;exact HMM.out _)))
  refine wpQuiet_nil ?_
  rintro _ ⟨q,rfl⟩
  go_wp2
  go_ret
  exact ⟨rfl,HQ.out q⟩
 ·rw [if_pos (by simpa using h4)] at HSS
  go_enter Tryz.func54,Tryz.ntmps54
  go_wp2_with fail
  refine (HRR.out _).mono ?_
  rintro e w1 ⟨rfl,rfl⟩
  go_wp2_with fail
  refine region_class (KB.w (w:=(w.alloc (.cells #[.int .i64 kd,.int .i64 (op:Int),.int .i64 nn,.string txt,.int .i64 kk] 82)))) (by kernel_rfl) (by kernel_rfl) ⟨⟨_,(Below.refl _ _).drew⟩,rfl⟩ ?_
  repeat (go_big_quiet_step (first
   | (go_at_call 53;first | with_reducible exact HSS.out _ | with_reducible exact HTT.out _)
   | (go_at_call 74;exact HMM.out _)))
  refine wpQuiet_nil ?_
  rintro _ ⟨q,rfl⟩
  go_wp2
  go_ret
  exact ⟨rfl,HQ.out q⟩
end Go.Proofs.YtbckhbeebngjfaaGreatDoor
