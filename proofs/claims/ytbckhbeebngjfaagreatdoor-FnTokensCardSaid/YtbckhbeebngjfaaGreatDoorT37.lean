/- Cv. -/
import Derived.Test.YtbckhbeebngjfaaGreatDoorT34
namespace Go.Proofs.YtbckhbeebngjfaaGreatDoor
open Go.RowKit
def Fm (gb M:Nat) (w:World):Prop:=∃ p m c,m≤M∧w.cell? ⟨gb,2,none⟩=some (.slice p m c)
theorem Fm.ty [Inhabited Bs] {gb M:Nat} {w w':World} (h:Fm gb M w) (ht:tyAt w gb=some 103) (hl:gb < w.heap.size) (hb:Ty w w'):Fm gb M w':=by
 obtain ⟨p,m,c,hm,hc⟩:=h
 exact ⟨p,m,c,hm,(hb.two (by unfold Mine;simp) gb hl ht).2.trans hc⟩
theorem Fm.pf [Inhabited Bs] {gb M B:Nat} {w w':World} (h:Fm gb M w) (ht:tyAt w gb=some 103) (hl:gb < w.heap.size) (hb:Pf B w w'):Fm gb M w':=by
 obtain ⟨p,m,c,hm,hc⟩:=h
 exact ⟨p,m,c,hm,(World.cell?_of_block (a:=⟨gb,2,none⟩) (hb.block gb hl (.inr (by rw [ht];decide)))).trans hc⟩
theorem Fm.mono [Inhabited Bs] {gb M M':Nat} {w:World} (h:Fm gb M w) (hm:M≤M'):Fm gb M' w:=by
 obtain ⟨p,m,c,h1,hc⟩:=h
 exact ⟨p,m,c,by omega,hc⟩
theorem set_aboveM [Inhabited Bs] {M:Option TypeId→Prop} {w W:World} {b o:Nat} {v:Value} (h:TyM M w W) (hb:w.heap.size≤b):TyM M w (W.setCell ⟨b,o,none⟩ v):=by
 have k:=(Below.refl 0 W).setCell (p:=⟨b,o,none⟩) (Nat.zero_le _) v
 have e:∀ q,q < w.heap.size→(W.setCell ⟨b,o,none⟩ v).heap[q]?=W.heap[q]?:=fun q hq=>Below.heap_setCell _ _ _ _ (show q≠b by omega)
 exact ⟨k.os.trans h.os,k.tape.trans h.tape,k.output.trans h.output,Nat.le_trans h.size k.size,fun q h1 h2=>(e q h1).trans (h.block q h1 h2),fun hn q h1 h2=>by
  obtain ⟨x1,x2⟩:=h.two hn q h1 h2
  exact ⟨(tyAt_block (e q h1)).trans x1,(World.cell?_of_block (a:=⟨q,2,none⟩) (e q h1)).trans x2⟩,fun q h1 h2=>(e q h1).trans (h.old q h1 h2)⟩
theorem gn_set [Inhabited Bs] {gb rb n q k b o:Nat} {vb v x:Value} {w:World} (h:Gn gb rb vb n q k w) (hb:rb < b) (hx:w.heap[b]?=some (.cells #[x] 50)):Gn gb rb vb n q k (w.setCell ⟨b,o,none⟩ v):=by
 have ht:tyAt w b=some 50:=by unfold tyAt;rw [hx];rfl
 have e:∀ c,c≠b→(w.setCell ⟨b,o,none⟩ v).heap[c]?=w.heap[c]?:=fun c hc=>Below.heap_setCell _ _ _ _ hc
 have kt:∀ t,t≠50→∀ c,c < w.heap.size→tyAt w c=some t→(w.setCell ⟨b,o,none⟩ v).heap[c]?=w.heap[c]?:=fun t h1 c _ h2=>e c (fun e'=>by rw [e',ht] at h2;exact h1 (Option.some.inj h2).symm)
 have eb:=kt _ (by decide) gb h.lt h.ty
 have cb:∀ j,(w.setCell ⟨b,o,none⟩ v).cell? ⟨gb,j,none⟩=w.cell? ⟨gb,j,none⟩:=fun j=>World.cell?_of_block (a:=⟨gb,j,none⟩) eb
 have hup:=h.up
 obtain ⟨p,hp,hr⟩:=h.R
 obtain ⟨v',xs,n1,n2,n3⟩:=h.nm
 obtain ⟨vf,m,ys,f1,f2,f3,f4⟩:=h.fn
 obtain ⟨c,hc,h5⟩:=h.ct
 obtain ⟨z,hz,hz1,h6⟩:=h.sz
 exact ⟨⟨p,hp,hr.upto (fun c hc=>e c (by omega))⟩,hup,(tyAt_block eb).trans h.ty,(cb 0).trans h.c0,⟨v',xs,(cb 1).trans n1,row_tyM n2 (kt _ (by decide)),n3⟩,⟨vf,m,ys,(cb 2).trans f1,row_tyM f2 (kt _ (by decide)),f3,f4.keep (kt _ (by decide))⟩,⟨c,hc,(cb 3).trans h5⟩,⟨z,hz,hz1,(cb 4).trans h6⟩,fun j=>(World.frozen?_of_block (a:=⟨gb,j,none⟩) eb).trans (h.fr j),h.km⟩
theorem Tf.same [Inhabited Bs] {w w':World} (h:Tf w w') {b:Nat} {cs:Array Value} {t:TypeId} (hb:w.heap[b]?=some (.cells cs t)) (ht:¬ MineF (some t)):w'.heap[b]?=some (.cells cs t):=by
 have hl:b < w.heap.size:=by
  rcases Nat.lt_or_ge b w.heap.size with h | h
  ·exact h
  ·rw [Array.getElem?_eq_none h] at hb;cases hb
 exact (h.block b hl (by unfold tyAt;rw [hb];exact ht)).trans hb
theorem mineF_tree [Inhabited Bs]:¬ MineF (some 50):=by unfold MineF Mine;simp
variable (gb rb:Nat) (vb:Value) (n:Nat)
def DefAt [Inhabited Bs]:Prop:=∀ (q k M:Nat) (s:Short) (w:World),Gn gb rb vb n q k w→Fm gb M w→M≤500→q+9000≤700000000→k+20≤900→Calls Tryz.prog 82 #[.pointer (some ⟨gb,0,none⟩),.string s,.int .i64 3] w fun e w'=>∃ v l,e = .returned v∧NR w' v l∧0 < l.length∧l.length≤9000∧Gn gb rb vb n (q+9000) k w'∧Tf w w'∧Fm gb (M+2) w'
set_option maxRecDepth 100000 in
set_option maxHeartbeats 16000000 in
theorem file_any [Inhabited Bs] (HE3:EAt gb rb vb n 3 6860) (HE4:EAt gb rb vb n 4 34360) (HDF:DefAt gb rb vb n) (q lb N:Nat) (w:World) (h:Gn gb rb vb n q 0 w) (hf:Fm gb 0 w) (hN:N≤6) (hq:q≤100000000):Calls Tryz.prog 62 #[.pointer (some ⟨gb,0,none⟩),.slice (some ⟨lb,0,none⟩) 0 0,.int .i64 (N:Int)] w fun e w'=>∃ v l k,e = .returned (.agg #[v])∧NR w' v l∧0 < l.length∧l.length≤250000∧Gn gb rb vb n (q+250000) k w'∧Tf w w':=by
 obtain ⟨iP,hP,hPz,hPs,hPb⟩:=info_parts Tryz.infoNdsC
 obtain ⟨iN,hNi,hNz,hNs,hNb⟩:=info_parts Tryz.infoSeen
 have hup:=h.up
 have hrw:rb < w.heap.size:=Nat.lt_trans h.up h.lt
 have b1:Below w.heap.size w (w.alloc (.cells #[.slice none 0 0] 50)):=bA _
 have HG0:=hide (h.below b1)
 have HF0:=hide (hf.ty h.ty h.lt (.of b1))
 have HT0:Hid (Tf w (w.alloc (.cells #[.slice none 0 0] 50))):=hide (.of b1)
 have HX0:Hid ((w.alloc (.cells #[.slice none 0 0] 50)).heap[w.heap.size]?=some (.cells #[.slice none 0 0] 50)):=hide (heap_alloc_new' w _)
 have HP0:=hide (World.ownsRow_lit (base:=w.heap.size) (e:=48) (size:=1) (w.alloc (.cells #[.slice none 0 0] 50)) #[] 0 b1.size (Nat.zero_le _) rfl)
 have HE3:=hide HE3
 have HE4:=hide HE4
 have HDF:=hide HDF
 have HB1:=hide b1
 clear h hf b1
 rw [World.size_alloc] at HP0
 go_enter Tryz.func62,Tryz.ntmps62
 go_wp2_with (at_builtin;refine wpList_append_own_at _ rfl _ _ 94 rfl w.heap.size 48 iP _ 1 24 Tryz.underlying94 hP hPz hPs hPb rfl (by decide) _ 0 [] rfl HP0.out ⟨lb,0,none⟩ 0 0 [] rfl rfl (by intro j u hu;simp at hu) (by simp) (by unfold maxLen;omega) (by omega) (by simp;omega) ?_)
 intro v1 w1 r1 r2 r3 r4
 have B1:Below (w.alloc (.cells #[.slice none 0 0] 50)).heap.size (w.alloc (.cells #[.slice none 0 0] 50)) w1:=(bA (.cells #[] 48)).grown r2 (by simp) (fun q e=>by cases e;simp)
 obtain ⟨sp1,sc1,hs1⟩:=row_formP r1
 subst hs1
 have HG1:=hide (HG0.out.below B1)
 have HF1:=hide (HF0.out.ty HG0.out.ty HG0.out.lt (.of B1))
 have HT1:=hide (HT0.out.trans (.of B1))
 have HX1:=hide (TyM.same HX0.out B1)
 have HP1:Hid (PW w.heap.size w1 (.slice sp1 0 sc1) []):=hide ⟨[],r1,fun _ hi=>absurd hi (Nat.not_lt_zero _)⟩
 clear r1 r2 r3 r4 B1 HB1 HP0 HG0 HF0 HT0 HX0
 go_wp2_with fail
 go_loopw [7,8,9,10] (fun sv tv _ _ wr=>∃ (i k:Nat) (ls:List (List Tr.Nd)),i≤N∧tv = .int .i64 (i:Int)∧k≤i∧ls.length≤i∧ls.flatten.length≤i*40000∧PW w.heap.size wr sv ls∧Gn gb rb vb n (q+i*40000) k wr∧Tf w wr∧Fm gb (2 * i) wr∧wr.heap[w.heap.size]?=some (.cells #[.slice none 0 0] 50)) (fun _ tv _ _ _=>N - (intOf tv).toNat)
 case atStart=>exact ⟨0,0,[],Nat.zero_le _,rfl,Nat.le_refl _,Nat.le_refl _,Nat.le_refl _,HP1.out,HG1.out,HT1.out,HF1.out,HX1.out⟩
 case round =>
  obtain ⟨i,k,ls,hi,rfl,hki,hle,hfl,hPW,hG,hT,hF,hX⟩:=hrel
  have HPr:=hide hPW
  have HGr:=hide hG
  have HTr:=hide hT
  have HFr:=hide hF
  have HXr:=hide hX
  have c0:=hG.c0
  obtain ⟨vs0,pv0,_⟩:=hPW
  obtain ⟨pp0,pc0,hp0⟩:=row_formP pv0
  subst hp0
  clear pv0 hG hT hF hX
  by_cases hlt:(i:Int) < (N:Int)
  ·go_wp2_with fail
   refine (Gn.pick HGr.out (by omega) 8 (by omega) (by omega)).mono ?_
   rintro e61 w61 ⟨z61,hz61,rfl,hg61,ht61⟩
   have HR61:=hide ht61
   have HP61:=hide (HPr.out.ty HR61.out)
   have HT61:=hide (HTr.out.trans (Ty.tf HR61.out))
   have HX61:=hide (Ty.same HR61.out HXr.out mine_tree)
   have HF61:=hide (HFr.out.ty HGr.out.ty HGr.out.lt HR61.out)
   have HG61:=hide hg61
   have c0_61:=HG61.out.c0
   clear hg61 ht61
   by_cases hy0:z61=0
   ·subst hy0
    have HDC:=hide (fun w0=>decC_any i w0 (by omega))
    have hdl:=Tr.decC_len i
    generalize Tr.decC i=dc at *
    have hsz2:(⟨dc.toArray⟩:ByteArray).size≤1000:=by show dc.toArray.size≤_;simp;omega
    go_wp2_with fail
    refine (HDC.out _).mono ?_
    rintro e62 w62 ⟨rfl,b62⟩
    have HR62:=hide (TyM.of (M:=Mine) b62)
    have HP62:=hide (HP61.out.ty HR62.out)
    have HT62:=hide (HT61.out.trans (Ty.tf HR62.out))
    have HX62:=hide (Ty.same HR62.out HX61.out mine_tree)
    have HF62:=hide (HF61.out.ty HG61.out.ty HG61.out.lt HR62.out)
    have HG62:=hide (HG61.out.below b62)
    have c0_62:=HG62.out.c0
    clear b62
    go_wp2_with fail
    obtain ⟨sf,hsf⟩:∃ sf:Short,sf.val=(⟨#[102]⟩:ByteArray)++⟨dc.toArray⟩:=⟨⟨(⟨#[102]⟩:ByteArray)++⟨dc.toArray⟩,(by rw [ByteArray.size_append];show 1+_≤_;omega)⟩,rfl⟩
    rw [← hsf]
    refine (HDF.out _ _ _ sf _ HG62.out HF62.out (by omega) (by omega) (by omega)).mono ?_
    rintro e63 w63 ⟨v63,l63,rfl,nr63,pn63,mn63,hg63,ht63,hf63⟩
    have HR63:=hide ht63
    have HP63:=hide (HP62.out.tf HR63.out)
    have HT63:=hide (HT62.out.trans HR63.out)
    have HX63:=hide (Tf.same HR63.out HX62.out mineF_tree)
    have HF63:=hide hf63
    have HG63:=hide hg63
    have c0_63:=HG63.out.c0
    clear hg63 ht63 hf63
    obtain ⟨gq63,cq63,hv63⟩:=nr63.form pn63
    subst hv63
    have HNd63:=hide nr63
    clear nr63
    obtain ⟨vs64,pv64,pw64⟩:=HP63.out
    have HV64:=hide pv64
    have HW64:=hide pw64
    clear pv64 pw64
    have hz64:=HT63.out.size
    go_wp2_with (at_builtin;refine wpList_append_own_at _ rfl _ _ 94 rfl w.heap.size 48 iP _ 1 24 Tryz.underlying94 hP hPz hPs hPb rfl (by decide) _ ls.length vs64 rfl (HV64.out.alloc _) ⟨w63.heap.size,0,none⟩ 1 1 [.slice (some ⟨gq63,0,none⟩) l63.length cq63] rfl rfl (cells_litC _ [_] _ _ rfl) (by simp [Value.oneCell']) (by unfold maxLen;omega) (by omega) (by simp;omega) ?_)
    intro v64 w64 ra64 rb64 rc64 rd64
    obtain ⟨hp64,hpf64⟩:=pushed HV64.out HW64.out HNd63.out pn63 ra64 rb64
    obtain ⟨sp64,sc64,hs64⟩:=row_formP ra64
    subst hs64
    have HP64:=hide hp64
    have HG64:=hide (hpf64.gn HG63.out hrw)
    have HT64:=hide (hpf64.tyM HT63.out (Nat.le_refl _))
    have HX64:=hide (hpf64.same HX63.out (by decide))
    have HF64:=hide (HF63.out.pf HG63.out.ty HG63.out.lt hpf64)
    clear hp64 hpf64 ra64 rb64 rc64 rd64
    go_wp2
    go_roundw
    case rel=>exact ⟨i+1,k,_,by omega,by go_num,by omega,by rw [List.length_append];simp only [List.length_cons,List.length_nil];omega,by rw [List.flatten_append,List.length_append,fl1];omega,HP64.out,HG64.out.mono (by omega),HT64.out,HF64.out.mono (by omega),HX64.out⟩
    case measure=>simp [intOf];omega
   by_cases hy1:z61=1
   ·subst hy1
    have HDC:=hide (fun w0=>decC_any i w0 (by omega))
    have hdl:=Tr.decC_len i
    generalize Tr.decC i=dc at *
    have hsz2:(⟨dc.toArray⟩:ByteArray).size≤1000:=by show dc.toArray.size≤_;simp;omega
    go_wp2_with fail
    refine (HDC.out _).mono ?_
    rintro e65 w65 ⟨rfl,b65⟩
    have HR65:=hide (TyM.of (M:=Mine) b65)
    have HP65:=hide (HP61.out.ty HR65.out)
    have HT65:=hide (HT61.out.trans (Ty.tf HR65.out))
    have HX65:=hide (Ty.same HR65.out HX61.out mine_tree)
    have HF65:=hide (HF61.out.ty HG61.out.ty HG61.out.lt HR65.out)
    have HG65:=hide (HG61.out.below b65)
    have c0_65:=HG65.out.c0
    clear b65
    go_wp2_with fail
    obtain ⟨sf,hsf⟩:∃ sf:Short,sf.val=(⟨#[102]⟩:ByteArray)++⟨dc.toArray⟩:=⟨⟨(⟨#[102]⟩:ByteArray)++⟨dc.toArray⟩,(by rw [ByteArray.size_append];show 1+_≤_;omega)⟩,rfl⟩
    rw [← hsf]
    refine (HDF.out _ _ _ sf _ HG65.out HF65.out (by omega) (by omega) (by omega)).mono ?_
    rintro e66 w66 ⟨v66,l66,rfl,nr66,pn66,mn66,hg66,ht66,hf66⟩
    have HR66:=hide ht66
    have HP66:=hide (HP65.out.tf HR66.out)
    have HT66:=hide (HT65.out.trans HR66.out)
    have HX66:=hide (Tf.same HR66.out HX65.out mineF_tree)
    have HF66:=hide hf66
    have HG66:=hide hg66
    have c0_66:=HG66.out.c0
    clear hg66 ht66 hf66
    obtain ⟨gq66,cq66,hv66⟩:=nr66.form pn66
    subst hv66
    have HNd66:=hide nr66
    clear nr66
    obtain ⟨vs67,pv67,pw67⟩:=HP66.out
    have HV67:=hide pv67
    have HW67:=hide pw67
    clear pv67 pw67
    have hz67:=HT66.out.size
    go_wp2_with (at_builtin;refine wpList_append_own_at _ rfl _ _ 94 rfl w.heap.size 48 iP _ 1 24 Tryz.underlying94 hP hPz hPs hPb rfl (by decide) _ ls.length vs67 rfl (HV67.out.alloc _) ⟨w66.heap.size,0,none⟩ 1 1 [.slice (some ⟨gq66,0,none⟩) l66.length cq66] rfl rfl (cells_litC _ [_] _ _ rfl) (by simp [Value.oneCell']) (by unfold maxLen;omega) (by omega) (by simp;omega) ?_)
    intro v67 w67 ra67 rb67 rc67 rd67
    obtain ⟨hp67,hpf67⟩:=pushed HV67.out HW67.out HNd66.out pn66 ra67 rb67
    obtain ⟨sp67,sc67,hs67⟩:=row_formP ra67
    subst hs67
    have HP67:=hide hp67
    have HG67:=hide (hpf67.gn HG66.out hrw)
    have HT67:=hide (hpf67.tyM HT66.out (Nat.le_refl _))
    have HX67:=hide (hpf67.same HX66.out (by decide))
    have HF67:=hide (HF66.out.pf HG66.out.ty HG66.out.lt hpf67)
    clear hp67 hpf67 ra67 rb67 rc67 rd67
    go_wp2
    go_roundw
    case rel=>exact ⟨i+1,k,_,by omega,by go_num,by omega,by rw [List.length_append];simp only [List.length_cons,List.length_nil];omega,by rw [List.flatten_append,List.length_append,fl1];omega,HP67.out,HG67.out.mono (by omega),HT67.out,HF67.out.mono (by omega),HX67.out⟩
    case measure=>simp [intOf];omega
   by_cases hy2:z61=2
   ·subst hy2
    have HDC:=hide (fun w0=>decC_any i w0 (by omega))
    have hdl:=Tr.decC_len i
    generalize Tr.decC i=dc at *
    have hsz2:(⟨dc.toArray⟩:ByteArray).size≤1000:=by show dc.toArray.size≤_;simp;omega
    go_wp2_with fail
    refine (HDC.out _).mono ?_
    rintro e68 w68 ⟨rfl,b68⟩
    have HR68:=hide (TyM.of (M:=Mine) b68)
    have HP68:=hide (HP61.out.ty HR68.out)
    have HT68:=hide (HT61.out.trans (Ty.tf HR68.out))
    have HX68:=hide (Ty.same HR68.out HX61.out mine_tree)
    have HF68:=hide (HF61.out.ty HG61.out.ty HG61.out.lt HR68.out)
    have HG68:=hide (HG61.out.below b68)
    have c0_68:=HG68.out.c0
    clear b68
    have hsz3:((⟨#[115]⟩:ByteArray)++⟨dc.toArray⟩).size≤2000:=by rw [ByteArray.size_append];show 1+_≤_;omega
    generalize hst:(⟨#[115]⟩:ByteArray)++⟨dc.toArray⟩=st at *
    go_wp2_with fail
    try rw [hst]
    refine (Gn.pick HG68.out (by omega) 8 (by omega) (by omega)).mono ?_
    rintro e69 w69 ⟨z69,hz69,rfl,hg69,ht69⟩
    have HR69:=hide ht69
    have HP69:=hide (HP68.out.ty HR69.out)
    have HT69:=hide (HT68.out.trans (Ty.tf HR69.out))
    have HX69:=hide (Ty.same HR69.out HX68.out mine_tree)
    have HF69:=hide (HF68.out.ty HG68.out.ty HG68.out.lt HR69.out)
    have HG69:=hide hg69
    have c0_69:=HG69.out.c0
    clear hg69 ht69
    by_cases hu0:z69=0
    ·subst hu0
     go_wp2_with fail
     refine (Gn.pick HG69.out (by omega) 6 (by omega) (by omega)).mono ?_
     rintro e70 w70 ⟨z70,hz70,rfl,hg70,ht70⟩
     have HR70:=hide ht70
     have HP70:=hide (HP69.out.ty HR70.out)
     have HT70:=hide (HT69.out.trans (Ty.tf HR70.out))
     have HX70:=hide (Ty.same HR70.out HX69.out mine_tree)
     have HF70:=hide (HF69.out.ty HG69.out.ty HG69.out.lt HR70.out)
     have HG70:=hide hg70
     have c0_70:=HG70.out.c0
     clear hg70 ht70
     go_wp2_with fail
     refine (HE4.out _ _ _ _ HG70.out (by omega) (by omega)).mono ?_
     rintro e71 w71 ⟨v71,l71,rfl,nr71,pn71,mn71,hg71,ht71⟩
     have HR71:=hide ht71
     have HP71:=hide (HP70.out.ty HR71.out)
     have HT71:=hide (HT70.out.trans (Ty.tf HR71.out))
     have HX71:=hide (Ty.same HR71.out HX70.out mine_tree)
     have HF71:=hide (HF70.out.ty HG70.out.ty HG70.out.lt HR71.out)
     have HG71:=hide hg71
     have c0_71:=HG71.out.c0
     clear hg71 ht71
     obtain ⟨gq71,cq71,hv71⟩:=nr71.form pn71
     subst hv71
     have HNa71:=hide nr71
     clear nr71
     have HO:=hide (fun t (_hts:ByteArray.size t≤1000000)=>over_mk ⟨21,0,0,t,0⟩ [_] _ _ 34360 (pr1 HNa71.out pn71) (by rw [fl1];omega) (by omega) (by simp))
     unfold ndV at HO
     go_wp2_with fail
     refine (HO.out _ (by first | omega | (rw [ByteArray.size_append];show 1+_≤_;omega))).mono ?_
     rintro e72 w72 ⟨v72,l72,rfl,nr72,pn72,mn72,b72⟩
     have HR72:=hide (TyM.trans (TyM.of (M:=Mine) (bA _)) (TyM.of (M:=Mine) b72))
     have HP72:=hide (HP71.out.ty HR72.out)
     have HT72:=hide (HT71.out.trans (Ty.tf HR72.out))
     have HX72:=hide (Ty.same HR72.out HX71.out mine_tree)
     have HF72:=hide (HF71.out.ty HG71.out.ty HG71.out.lt HR72.out)
     have HG72:=hide ((HG71.out.below (bA _)).below b72)
     have c0_72:=HG72.out.c0
     clear b72
     obtain ⟨gq72,cq72,hv72⟩:=nr72.form pn72
     subst hv72
     have HNr72:=hide nr72
     clear nr72
     obtain ⟨vs73,pv73,pw73⟩:=HP72.out
     have HV73:=hide pv73
     have HW73:=hide pw73
     clear pv73 pw73
     have hz73:=HT72.out.size
     go_wp2_with (at_builtin;refine wpList_append_own_at _ rfl _ _ 94 rfl w.heap.size 48 iP _ 1 24 Tryz.underlying94 hP hPz hPs hPb rfl (by decide) _ ls.length vs73 rfl (HV73.out.alloc _) ⟨w72.heap.size,0,none⟩ 1 1 [.slice (some ⟨gq72,0,none⟩) l72.length cq72] rfl rfl (cells_litC _ [_] _ _ rfl) (by simp [Value.oneCell']) (by unfold maxLen;omega) (by omega) (by simp;omega) ?_)
     intro v73 w73 ra73 rb73 rc73 rd73
     obtain ⟨hp73,hpf73⟩:=pushed HV73.out HW73.out HNr72.out pn72 ra73 rb73
     obtain ⟨sp73,sc73,hs73⟩:=row_formP ra73
     subst hs73
     have HP73:=hide hp73
     have HG73:=hide (hpf73.gn HG72.out hrw)
     have HT73:=hide (hpf73.tyM HT72.out (Nat.le_refl _))
     have HX73:=hide (hpf73.same HX72.out (by decide))
     have HF73:=hide (HF72.out.pf HG72.out.ty HG72.out.lt hpf73)
     clear hp73 hpf73 ra73 rb73 rc73 rd73
     obtain ⟨vn_74,xs_74,n1_74,n2_74,n3_74⟩:=HG73.out.nm
     obtain ⟨np_74,nc_74,hvn_74⟩:=row_formP n2_74
     subst hvn_74
     have hlx_74:=n2_74.1
     have hkm_74:=HG73.out.km
     have bx_74:=(Below.refl w73.heap.size w73).alloc (Nat.le_refl _) (.cells #[.string ((⟨#[95]⟩:ByteArray)++st),.int .i64 (z70:Int)] 123)
     have HGa_74:=hide (HG73.out.below bx_74)
     have n1a_74:=(bx_74.cell (p:=⟨gb,1,none⟩) HG73.out.lt).trans n1_74
     have HRa_74:=hide (n2_74.alloc (.cells #[.string ((⟨#[95]⟩:ByteArray)++st),.int .i64 (z70:Int)] 123))
     have HS_74:=hide (n3_74.snoc hlx_74 ⟨((⟨#[95]⟩:ByteArray)++st),(by first | omega | (rw [ByteArray.size_append];show 1+_≤_;omega))⟩ (z70:Int))
     have HTa_74:Hid (Ty w73 (w73.alloc (.cells #[.string ((⟨#[95]⟩:ByteArray)++st),.int .i64 (z70:Int)] 123))):=hide (.of bx_74)
     have hrl_74:rb+1≤(w73.alloc (.cells #[.string ((⟨#[95]⟩:ByteArray)++st),.int .i64 (z70:Int)] 123)).heap.size:=by have:=HT73.out.size;simp;omega
     clear n2_74 n3_74 bx_74
     go_wp2_with (at_builtin;refine wpList_append_own_at _ rfl _ _ 100 rfl (rb+1) 123 iN _ 2 24 Tryz.underlying100 hNi hNz hNs hNb rfl (by decide) _ _ xs_74 rfl HRa_74.out ⟨w73.heap.size,0,none⟩ 1 1 [.string ((⟨#[95]⟩:ByteArray)++st),.int .i64 (z70:Int)] rfl rfl (cells_litC _ [_,_] _ _ rfl) (by simp [Value.oneCell']) (by unfold maxLen;omega) (by omega) hrl_74 ?_)
     intro v5_74 w5_74 r1_74 r2_74 r3_74 r4_74
     have ne_74:some gb≠(Value.slice np_74 k nc_74).ownBlock:=fun e=>by have h1:=row_tyAt HRa_74.out e.symm;rw [HGa_74.out.ty] at h1;cases h1
     have q5_74:=(World.cell?_of_block (a:=⟨gb,1,none⟩) (r2_74.block gb HGa_74.out.lt ne_74)).trans n1a_74
     have q6_74:=(World.frozen?_of_block (a:=⟨gb,1,none⟩) (r2_74.block gb HGa_74.out.lt ne_74)).trans (HGa_74.out.fr 1)
     obtain ⟨g5_74,c5_74,hv5_74⟩:∃ g c,v5_74 = .slice (some ⟨g,0,none⟩) (k+1) c:=by
      rcases r1_74.2 with ⟨_,h0⟩ | ⟨g,c,_,h2,_⟩
      ·omega
      ·exact ⟨g,c,h2⟩
     subst hv5_74
     have HG5_74:=hide (HGa_74.out.push n1a_74 r2_74 r1_74 HS_74.out (by omega))
     have hty_74:Ty w73 (w5_74.setCell ⟨gb,1,none⟩ (.slice (some ⟨g5_74,0,none⟩) (k+1) c5_74)):=(HTa_74.out.trans (.grown r2_74 (fun b hb=>by rw [row_tyAt HRa_74.out hb];exact .inr (.inr rfl)) (fun b hb=>by rw [row_tyAt HRa_74.out hb];decide) (fun b hb=>Nat.le_trans HGa_74.out.lo (Nat.le_of_succ_le (HRa_74.out.lt b hb).1)))).trans (.set (by rw [tyAt_block (r2_74.block gb HGa_74.out.lt ne_74)];exact HGa_74.out.mine) (by decide))
     clear r1_74 r2_74 r3_74 r4_74 ne_74
     have HR74:=hide hty_74
     have HP74:=hide (HP73.out.ty HR74.out)
     have HT74:=hide (HT73.out.trans (Ty.tf HR74.out))
     have HX74:=hide (Ty.same HR74.out HX73.out mine_tree)
     have HF74:=hide (HF73.out.ty HG73.out.ty HG73.out.lt HR74.out)
     have HG74:=hide HG5_74.out
     have c0_74:=HG74.out.c0
     clear hty_74
     go_wp2
     go_roundw
     case rel=>exact ⟨i+1,k+1,_,by omega,by go_num,by omega,by rw [List.length_append];simp only [List.length_cons,List.length_nil];omega,by rw [List.flatten_append,List.length_append,fl1];omega,HP74.out,HG74.out.mono (by omega),HT74.out,HF74.out.mono (by omega),HX74.out⟩
     case measure=>simp [intOf];omega
    have hu1:((z69:Int) == 0)=false:=by simp;omega
    go_wp2_with fail
    refine (Gn.pick HG69.out (by omega) 6 (by omega) (by omega)).mono ?_
    rintro e75 w75 ⟨z75,hz75,rfl,hg75,ht75⟩
    have HR75:=hide ht75
    have HP75:=hide (HP69.out.ty HR75.out)
    have HT75:=hide (HT69.out.trans (Ty.tf HR75.out))
    have HX75:=hide (Ty.same HR75.out HX69.out mine_tree)
    have HF75:=hide (HF69.out.ty HG69.out.ty HG69.out.lt HR75.out)
    have HG75:=hide hg75
    have c0_75:=HG75.out.c0
    clear hg75 ht75
    go_wp2_with fail
    refine (HE4.out _ _ _ _ HG75.out (by omega) (by omega)).mono ?_
    rintro e76 w76 ⟨v76,l76,rfl,nr76,pn76,mn76,hg76,ht76⟩
    have HR76:=hide ht76
    have HP76:=hide (HP75.out.ty HR76.out)
    have HT76:=hide (HT75.out.trans (Ty.tf HR76.out))
    have HX76:=hide (Ty.same HR76.out HX75.out mine_tree)
    have HF76:=hide (HF75.out.ty HG75.out.ty HG75.out.lt HR76.out)
    have HG76:=hide hg76
    have c0_76:=HG76.out.c0
    clear hg76 ht76
    obtain ⟨gq76,cq76,hv76⟩:=nr76.form pn76
    subst hv76
    have HNa76:=hide nr76
    clear nr76
    have HO:=hide (fun t (_hts:ByteArray.size t≤1000000)=>over_mk ⟨21,0,0,t,0⟩ [_] _ _ 34360 (pr1 HNa76.out pn76) (by rw [fl1];omega) (by omega) (by simp))
    unfold ndV at HO
    go_wp2_with fail
    refine (HO.out _ (by first | omega | (rw [ByteArray.size_append];show 1+_≤_;omega))).mono ?_
    rintro e77 w77 ⟨v77,l77,rfl,nr77,pn77,mn77,b77⟩
    have HR77:=hide (TyM.trans (TyM.of (M:=Mine) (bA _)) (TyM.of (M:=Mine) b77))
    have HP77:=hide (HP76.out.ty HR77.out)
    have HT77:=hide (HT76.out.trans (Ty.tf HR77.out))
    have HX77:=hide (Ty.same HR77.out HX76.out mine_tree)
    have HF77:=hide (HF76.out.ty HG76.out.ty HG76.out.lt HR77.out)
    have HG77:=hide ((HG76.out.below (bA _)).below b77)
    have c0_77:=HG77.out.c0
    clear b77
    obtain ⟨gq77,cq77,hv77⟩:=nr77.form pn77
    subst hv77
    have HNr77:=hide nr77
    clear nr77
    obtain ⟨vs78,pv78,pw78⟩:=HP77.out
    have HV78:=hide pv78
    have HW78:=hide pw78
    clear pv78 pw78
    have hz78:=HT77.out.size
    go_wp2_with (at_builtin;refine wpList_append_own_at _ rfl _ _ 94 rfl w.heap.size 48 iP _ 1 24 Tryz.underlying94 hP hPz hPs hPb rfl (by decide) _ ls.length vs78 rfl (HV78.out.alloc _) ⟨w77.heap.size,0,none⟩ 1 1 [.slice (some ⟨gq77,0,none⟩) l77.length cq77] rfl rfl (cells_litC _ [_] _ _ rfl) (by simp [Value.oneCell']) (by unfold maxLen;omega) (by omega) (by simp;omega) ?_)
    intro v78 w78 ra78 rb78 rc78 rd78
    obtain ⟨hp78,hpf78⟩:=pushed HV78.out HW78.out HNr77.out pn77 ra78 rb78
    obtain ⟨sp78,sc78,hs78⟩:=row_formP ra78
    subst hs78
    have HP78:=hide hp78
    have HG78:=hide (hpf78.gn HG77.out hrw)
    have HT78:=hide (hpf78.tyM HT77.out (Nat.le_refl _))
    have HX78:=hide (hpf78.same HX77.out (by decide))
    have HF78:=hide (HF77.out.pf HG77.out.ty HG77.out.lt hpf78)
    clear hp78 hpf78 ra78 rb78 rc78 rd78
    obtain ⟨vn_79,xs_79,n1_79,n2_79,n3_79⟩:=HG78.out.nm
    obtain ⟨np_79,nc_79,hvn_79⟩:=row_formP n2_79
    subst hvn_79
    have hlx_79:=n2_79.1
    have hkm_79:=HG78.out.km
    have bx_79:=(Below.refl w78.heap.size w78).alloc (Nat.le_refl _) (.cells #[.string st,.int .i64 (z75:Int)] 123)
    have HGa_79:=hide (HG78.out.below bx_79)
    have n1a_79:=(bx_79.cell (p:=⟨gb,1,none⟩) HG78.out.lt).trans n1_79
    have HRa_79:=hide (n2_79.alloc (.cells #[.string st,.int .i64 (z75:Int)] 123))
    have HS_79:=hide (n3_79.snoc hlx_79 ⟨st,(by first | omega | (rw [ByteArray.size_append];show 1+_≤_;omega))⟩ (z75:Int))
    have HTa_79:Hid (Ty w78 (w78.alloc (.cells #[.string st,.int .i64 (z75:Int)] 123))):=hide (.of bx_79)
    have hrl_79:rb+1≤(w78.alloc (.cells #[.string st,.int .i64 (z75:Int)] 123)).heap.size:=by have:=HT78.out.size;simp;omega
    clear n2_79 n3_79 bx_79
    go_wp2_with (at_builtin;refine wpList_append_own_at _ rfl _ _ 100 rfl (rb+1) 123 iN _ 2 24 Tryz.underlying100 hNi hNz hNs hNb rfl (by decide) _ _ xs_79 rfl HRa_79.out ⟨w78.heap.size,0,none⟩ 1 1 [.string st,.int .i64 (z75:Int)] rfl rfl (cells_litC _ [_,_] _ _ rfl) (by simp [Value.oneCell']) (by unfold maxLen;omega) (by omega) hrl_79 ?_)
    intro v5_79 w5_79 r1_79 r2_79 r3_79 r4_79
    have ne_79:some gb≠(Value.slice np_79 k nc_79).ownBlock:=fun e=>by have h1:=row_tyAt HRa_79.out e.symm;rw [HGa_79.out.ty] at h1;cases h1
    have q5_79:=(World.cell?_of_block (a:=⟨gb,1,none⟩) (r2_79.block gb HGa_79.out.lt ne_79)).trans n1a_79
    have q6_79:=(World.frozen?_of_block (a:=⟨gb,1,none⟩) (r2_79.block gb HGa_79.out.lt ne_79)).trans (HGa_79.out.fr 1)
    obtain ⟨g5_79,c5_79,hv5_79⟩:∃ g c,v5_79 = .slice (some ⟨g,0,none⟩) (k+1) c:=by
     rcases r1_79.2 with ⟨_,h0⟩ | ⟨g,c,_,h2,_⟩
     ·omega
     ·exact ⟨g,c,h2⟩
    subst hv5_79
    have HG5_79:=hide (HGa_79.out.push n1a_79 r2_79 r1_79 HS_79.out (by omega))
    have hty_79:Ty w78 (w5_79.setCell ⟨gb,1,none⟩ (.slice (some ⟨g5_79,0,none⟩) (k+1) c5_79)):=(HTa_79.out.trans (.grown r2_79 (fun b hb=>by rw [row_tyAt HRa_79.out hb];exact .inr (.inr rfl)) (fun b hb=>by rw [row_tyAt HRa_79.out hb];decide) (fun b hb=>Nat.le_trans HGa_79.out.lo (Nat.le_of_succ_le (HRa_79.out.lt b hb).1)))).trans (.set (by rw [tyAt_block (r2_79.block gb HGa_79.out.lt ne_79)];exact HGa_79.out.mine) (by decide))
    clear r1_79 r2_79 r3_79 r4_79 ne_79
    have HR79:=hide hty_79
    have HP79:=hide (HP78.out.ty HR79.out)
    have HT79:=hide (HT78.out.trans (Ty.tf HR79.out))
    have HX79:=hide (Ty.same HR79.out HX78.out mine_tree)
    have HF79:=hide (HF78.out.ty HG78.out.ty HG78.out.lt HR79.out)
    have HG79:=hide HG5_79.out
    have c0_79:=HG79.out.c0
    clear hty_79
    go_wp2
    go_roundw
    case rel=>exact ⟨i+1,k+1,_,by omega,by go_num,by omega,by rw [List.length_append];simp only [List.length_cons,List.length_nil];omega,by rw [List.flatten_append,List.length_append,fl1];omega,HP79.out,HG79.out.mono (by omega),HT79.out,HF79.out.mono (by omega),HX79.out⟩
    case measure=>simp [intOf];omega
   by_cases hy3:z61=3
   ·subst hy3
    have HDC:=hide (fun w0=>decC_any i w0 (by omega))
    have hdl:=Tr.decC_len i
    generalize Tr.decC i=dc at *
    have hsz2:(⟨dc.toArray⟩:ByteArray).size≤1000:=by show dc.toArray.size≤_;simp;omega
    go_wp2_with fail
    refine (HDC.out _).mono ?_
    rintro e80 w80 ⟨rfl,b80⟩
    have HR80:=hide (TyM.of (M:=Mine) b80)
    have HP80:=hide (HP61.out.ty HR80.out)
    have HT80:=hide (HT61.out.trans (Ty.tf HR80.out))
    have HX80:=hide (Ty.same HR80.out HX61.out mine_tree)
    have HF80:=hide (HF61.out.ty HG61.out.ty HG61.out.lt HR80.out)
    have HG80:=hide (HG61.out.below b80)
    have c0_80:=HG80.out.c0
    clear b80
    have hsz3:((⟨#[115]⟩:ByteArray)++⟨dc.toArray⟩).size≤2000:=by rw [ByteArray.size_append];show 1+_≤_;omega
    generalize hst:(⟨#[115]⟩:ByteArray)++⟨dc.toArray⟩=st at *
    go_wp2_with fail
    try rw [hst]
    refine (Gn.pick HG80.out (by omega) 8 (by omega) (by omega)).mono ?_
    rintro e81 w81 ⟨z81,hz81,rfl,hg81,ht81⟩
    have HR81:=hide ht81
    have HP81:=hide (HP80.out.ty HR81.out)
    have HT81:=hide (HT80.out.trans (Ty.tf HR81.out))
    have HX81:=hide (Ty.same HR81.out HX80.out mine_tree)
    have HF81:=hide (HF80.out.ty HG80.out.ty HG80.out.lt HR81.out)
    have HG81:=hide hg81
    have c0_81:=HG81.out.c0
    clear hg81 ht81
    by_cases hu0:z81=0
    ·subst hu0
     go_wp2_with fail
     refine (Gn.pick HG81.out (by omega) 6 (by omega) (by omega)).mono ?_
     rintro e82 w82 ⟨z82,hz82,rfl,hg82,ht82⟩
     have HR82:=hide ht82
     have HP82:=hide (HP81.out.ty HR82.out)
     have HT82:=hide (HT81.out.trans (Ty.tf HR82.out))
     have HX82:=hide (Ty.same HR82.out HX81.out mine_tree)
     have HF82:=hide (HF81.out.ty HG81.out.ty HG81.out.lt HR82.out)
     have HG82:=hide hg82
     have c0_82:=HG82.out.c0
     clear hg82 ht82
     go_wp2_with fail
     refine (HE4.out _ _ _ _ HG82.out (by omega) (by omega)).mono ?_
     rintro e83 w83 ⟨v83,l83,rfl,nr83,pn83,mn83,hg83,ht83⟩
     have HR83:=hide ht83
     have HP83:=hide (HP82.out.ty HR83.out)
     have HT83:=hide (HT82.out.trans (Ty.tf HR83.out))
     have HX83:=hide (Ty.same HR83.out HX82.out mine_tree)
     have HF83:=hide (HF82.out.ty HG82.out.ty HG82.out.lt HR83.out)
     have HG83:=hide hg83
     have c0_83:=HG83.out.c0
     clear hg83 ht83
     obtain ⟨gq83,cq83,hv83⟩:=nr83.form pn83
     subst hv83
     have HNa83:=hide nr83
     clear nr83
     have HO:=hide (fun t (_hts:ByteArray.size t≤1000000)=>over_mk ⟨21,0,0,t,0⟩ [_] _ _ 34360 (pr1 HNa83.out pn83) (by rw [fl1];omega) (by omega) (by simp))
     unfold ndV at HO
     go_wp2_with fail
     refine (HO.out _ (by first | omega | (rw [ByteArray.size_append];show 1+_≤_;omega))).mono ?_
     rintro e84 w84 ⟨v84,l84,rfl,nr84,pn84,mn84,b84⟩
     have HR84:=hide (TyM.trans (TyM.of (M:=Mine) (bA _)) (TyM.of (M:=Mine) b84))
     have HP84:=hide (HP83.out.ty HR84.out)
     have HT84:=hide (HT83.out.trans (Ty.tf HR84.out))
     have HX84:=hide (Ty.same HR84.out HX83.out mine_tree)
     have HF84:=hide (HF83.out.ty HG83.out.ty HG83.out.lt HR84.out)
     have HG84:=hide ((HG83.out.below (bA _)).below b84)
     have c0_84:=HG84.out.c0
     clear b84
     obtain ⟨gq84,cq84,hv84⟩:=nr84.form pn84
     subst hv84
     have HNr84:=hide nr84
     clear nr84
     obtain ⟨vs85,pv85,pw85⟩:=HP84.out
     have HV85:=hide pv85
     have HW85:=hide pw85
     clear pv85 pw85
     have hz85:=HT84.out.size
     go_wp2_with (at_builtin;refine wpList_append_own_at _ rfl _ _ 94 rfl w.heap.size 48 iP _ 1 24 Tryz.underlying94 hP hPz hPs hPb rfl (by decide) _ ls.length vs85 rfl (HV85.out.alloc _) ⟨w84.heap.size,0,none⟩ 1 1 [.slice (some ⟨gq84,0,none⟩) l84.length cq84] rfl rfl (cells_litC _ [_] _ _ rfl) (by simp [Value.oneCell']) (by unfold maxLen;omega) (by omega) (by simp;omega) ?_)
     intro v85 w85 ra85 rb85 rc85 rd85
     obtain ⟨hp85,hpf85⟩:=pushed HV85.out HW85.out HNr84.out pn84 ra85 rb85
     obtain ⟨sp85,sc85,hs85⟩:=row_formP ra85
     subst hs85
     have HP85:=hide hp85
     have HG85:=hide (hpf85.gn HG84.out hrw)
     have HT85:=hide (hpf85.tyM HT84.out (Nat.le_refl _))
     have HX85:=hide (hpf85.same HX84.out (by decide))
     have HF85:=hide (HF84.out.pf HG84.out.ty HG84.out.lt hpf85)
     clear hp85 hpf85 ra85 rb85 rc85 rd85
     obtain ⟨vn_86,xs_86,n1_86,n2_86,n3_86⟩:=HG85.out.nm
     obtain ⟨np_86,nc_86,hvn_86⟩:=row_formP n2_86
     subst hvn_86
     have hlx_86:=n2_86.1
     have hkm_86:=HG85.out.km
     have bx_86:=(Below.refl w85.heap.size w85).alloc (Nat.le_refl _) (.cells #[.string ((⟨#[95]⟩:ByteArray)++st),.int .i64 (z82:Int)] 123)
     have HGa_86:=hide (HG85.out.below bx_86)
     have n1a_86:=(bx_86.cell (p:=⟨gb,1,none⟩) HG85.out.lt).trans n1_86
     have HRa_86:=hide (n2_86.alloc (.cells #[.string ((⟨#[95]⟩:ByteArray)++st),.int .i64 (z82:Int)] 123))
     have HS_86:=hide (n3_86.snoc hlx_86 ⟨((⟨#[95]⟩:ByteArray)++st),(by first | omega | (rw [ByteArray.size_append];show 1+_≤_;omega))⟩ (z82:Int))
     have HTa_86:Hid (Ty w85 (w85.alloc (.cells #[.string ((⟨#[95]⟩:ByteArray)++st),.int .i64 (z82:Int)] 123))):=hide (.of bx_86)
     have hrl_86:rb+1≤(w85.alloc (.cells #[.string ((⟨#[95]⟩:ByteArray)++st),.int .i64 (z82:Int)] 123)).heap.size:=by have:=HT85.out.size;simp;omega
     clear n2_86 n3_86 bx_86
     go_wp2_with (at_builtin;refine wpList_append_own_at _ rfl _ _ 100 rfl (rb+1) 123 iN _ 2 24 Tryz.underlying100 hNi hNz hNs hNb rfl (by decide) _ _ xs_86 rfl HRa_86.out ⟨w85.heap.size,0,none⟩ 1 1 [.string ((⟨#[95]⟩:ByteArray)++st),.int .i64 (z82:Int)] rfl rfl (cells_litC _ [_,_] _ _ rfl) (by simp [Value.oneCell']) (by unfold maxLen;omega) (by omega) hrl_86 ?_)
     intro v5_86 w5_86 r1_86 r2_86 r3_86 r4_86
     have ne_86:some gb≠(Value.slice np_86 k nc_86).ownBlock:=fun e=>by have h1:=row_tyAt HRa_86.out e.symm;rw [HGa_86.out.ty] at h1;cases h1
     have q5_86:=(World.cell?_of_block (a:=⟨gb,1,none⟩) (r2_86.block gb HGa_86.out.lt ne_86)).trans n1a_86
     have q6_86:=(World.frozen?_of_block (a:=⟨gb,1,none⟩) (r2_86.block gb HGa_86.out.lt ne_86)).trans (HGa_86.out.fr 1)
     obtain ⟨g5_86,c5_86,hv5_86⟩:∃ g c,v5_86 = .slice (some ⟨g,0,none⟩) (k+1) c:=by
      rcases r1_86.2 with ⟨_,h0⟩ | ⟨g,c,_,h2,_⟩
      ·omega
      ·exact ⟨g,c,h2⟩
     subst hv5_86
     have HG5_86:=hide (HGa_86.out.push n1a_86 r2_86 r1_86 HS_86.out (by omega))
     have hty_86:Ty w85 (w5_86.setCell ⟨gb,1,none⟩ (.slice (some ⟨g5_86,0,none⟩) (k+1) c5_86)):=(HTa_86.out.trans (.grown r2_86 (fun b hb=>by rw [row_tyAt HRa_86.out hb];exact .inr (.inr rfl)) (fun b hb=>by rw [row_tyAt HRa_86.out hb];decide) (fun b hb=>Nat.le_trans HGa_86.out.lo (Nat.le_of_succ_le (HRa_86.out.lt b hb).1)))).trans (.set (by rw [tyAt_block (r2_86.block gb HGa_86.out.lt ne_86)];exact HGa_86.out.mine) (by decide))
     clear r1_86 r2_86 r3_86 r4_86 ne_86
     have HR86:=hide hty_86
     have HP86:=hide (HP85.out.ty HR86.out)
     have HT86:=hide (HT85.out.trans (Ty.tf HR86.out))
     have HX86:=hide (Ty.same HR86.out HX85.out mine_tree)
     have HF86:=hide (HF85.out.ty HG85.out.ty HG85.out.lt HR86.out)
     have HG86:=hide HG5_86.out
     have c0_86:=HG86.out.c0
     clear hty_86
     go_wp2
     go_roundw
     case rel=>exact ⟨i+1,k+1,_,by omega,by go_num,by omega,by rw [List.length_append];simp only [List.length_cons,List.length_nil];omega,by rw [List.flatten_append,List.length_append,fl1];omega,HP86.out,HG86.out.mono (by omega),HT86.out,HF86.out.mono (by omega),HX86.out⟩
     case measure=>simp [intOf];omega
    have hu1:((z81:Int) == 0)=false:=by simp;omega
    go_wp2_with fail
    refine (Gn.pick HG81.out (by omega) 6 (by omega) (by omega)).mono ?_
    rintro e87 w87 ⟨z87,hz87,rfl,hg87,ht87⟩
    have HR87:=hide ht87
    have HP87:=hide (HP81.out.ty HR87.out)
    have HT87:=hide (HT81.out.trans (Ty.tf HR87.out))
    have HX87:=hide (Ty.same HR87.out HX81.out mine_tree)
    have HF87:=hide (HF81.out.ty HG81.out.ty HG81.out.lt HR87.out)
    have HG87:=hide hg87
    have c0_87:=HG87.out.c0
    clear hg87 ht87
    go_wp2_with fail
    refine (HE4.out _ _ _ _ HG87.out (by omega) (by omega)).mono ?_
    rintro e88 w88 ⟨v88,l88,rfl,nr88,pn88,mn88,hg88,ht88⟩
    have HR88:=hide ht88
    have HP88:=hide (HP87.out.ty HR88.out)
    have HT88:=hide (HT87.out.trans (Ty.tf HR88.out))
    have HX88:=hide (Ty.same HR88.out HX87.out mine_tree)
    have HF88:=hide (HF87.out.ty HG87.out.ty HG87.out.lt HR88.out)
    have HG88:=hide hg88
    have c0_88:=HG88.out.c0
    clear hg88 ht88
    obtain ⟨gq88,cq88,hv88⟩:=nr88.form pn88
    subst hv88
    have HNa88:=hide nr88
    clear nr88
    have HO:=hide (fun t (_hts:ByteArray.size t≤1000000)=>over_mk ⟨21,0,0,t,0⟩ [_] _ _ 34360 (pr1 HNa88.out pn88) (by rw [fl1];omega) (by omega) (by simp))
    unfold ndV at HO
    go_wp2_with fail
    refine (HO.out _ (by first | omega | (rw [ByteArray.size_append];show 1+_≤_;omega))).mono ?_
    rintro e89 w89 ⟨v89,l89,rfl,nr89,pn89,mn89,b89⟩
    have HR89:=hide (TyM.trans (TyM.of (M:=Mine) (bA _)) (TyM.of (M:=Mine) b89))
    have HP89:=hide (HP88.out.ty HR89.out)
    have HT89:=hide (HT88.out.trans (Ty.tf HR89.out))
    have HX89:=hide (Ty.same HR89.out HX88.out mine_tree)
    have HF89:=hide (HF88.out.ty HG88.out.ty HG88.out.lt HR89.out)
    have HG89:=hide ((HG88.out.below (bA _)).below b89)
    have c0_89:=HG89.out.c0
    clear b89
    obtain ⟨gq89,cq89,hv89⟩:=nr89.form pn89
    subst hv89
    have HNr89:=hide nr89
    clear nr89
    obtain ⟨vs90,pv90,pw90⟩:=HP89.out
    have HV90:=hide pv90
    have HW90:=hide pw90
    clear pv90 pw90
    have hz90:=HT89.out.size
    go_wp2_with (at_builtin;refine wpList_append_own_at _ rfl _ _ 94 rfl w.heap.size 48 iP _ 1 24 Tryz.underlying94 hP hPz hPs hPb rfl (by decide) _ ls.length vs90 rfl (HV90.out.alloc _) ⟨w89.heap.size,0,none⟩ 1 1 [.slice (some ⟨gq89,0,none⟩) l89.length cq89] rfl rfl (cells_litC _ [_] _ _ rfl) (by simp [Value.oneCell']) (by unfold maxLen;omega) (by omega) (by simp;omega) ?_)
    intro v90 w90 ra90 rb90 rc90 rd90
    obtain ⟨hp90,hpf90⟩:=pushed HV90.out HW90.out HNr89.out pn89 ra90 rb90
    obtain ⟨sp90,sc90,hs90⟩:=row_formP ra90
    subst hs90
    have HP90:=hide hp90
    have HG90:=hide (hpf90.gn HG89.out hrw)
    have HT90:=hide (hpf90.tyM HT89.out (Nat.le_refl _))
    have HX90:=hide (hpf90.same HX89.out (by decide))
    have HF90:=hide (HF89.out.pf HG89.out.ty HG89.out.lt hpf90)
    clear hp90 hpf90 ra90 rb90 rc90 rd90
    obtain ⟨vn_91,xs_91,n1_91,n2_91,n3_91⟩:=HG90.out.nm
    obtain ⟨np_91,nc_91,hvn_91⟩:=row_formP n2_91
    subst hvn_91
    have hlx_91:=n2_91.1
    have hkm_91:=HG90.out.km
    have bx_91:=(Below.refl w90.heap.size w90).alloc (Nat.le_refl _) (.cells #[.string st,.int .i64 (z87:Int)] 123)
    have HGa_91:=hide (HG90.out.below bx_91)
    have n1a_91:=(bx_91.cell (p:=⟨gb,1,none⟩) HG90.out.lt).trans n1_91
    have HRa_91:=hide (n2_91.alloc (.cells #[.string st,.int .i64 (z87:Int)] 123))
    have HS_91:=hide (n3_91.snoc hlx_91 ⟨st,(by first | omega | (rw [ByteArray.size_append];show 1+_≤_;omega))⟩ (z87:Int))
    have HTa_91:Hid (Ty w90 (w90.alloc (.cells #[.string st,.int .i64 (z87:Int)] 123))):=hide (.of bx_91)
    have hrl_91:rb+1≤(w90.alloc (.cells #[.string st,.int .i64 (z87:Int)] 123)).heap.size:=by have:=HT90.out.size;simp;omega
    clear n2_91 n3_91 bx_91
    go_wp2_with (at_builtin;refine wpList_append_own_at _ rfl _ _ 100 rfl (rb+1) 123 iN _ 2 24 Tryz.underlying100 hNi hNz hNs hNb rfl (by decide) _ _ xs_91 rfl HRa_91.out ⟨w90.heap.size,0,none⟩ 1 1 [.string st,.int .i64 (z87:Int)] rfl rfl (cells_litC _ [_,_] _ _ rfl) (by simp [Value.oneCell']) (by unfold maxLen;omega) (by omega) hrl_91 ?_)
    intro v5_91 w5_91 r1_91 r2_91 r3_91 r4_91
    have ne_91:some gb≠(Value.slice np_91 k nc_91).ownBlock:=fun e=>by have h1:=row_tyAt HRa_91.out e.symm;rw [HGa_91.out.ty] at h1;cases h1
    have q5_91:=(World.cell?_of_block (a:=⟨gb,1,none⟩) (r2_91.block gb HGa_91.out.lt ne_91)).trans n1a_91
    have q6_91:=(World.frozen?_of_block (a:=⟨gb,1,none⟩) (r2_91.block gb HGa_91.out.lt ne_91)).trans (HGa_91.out.fr 1)
    obtain ⟨g5_91,c5_91,hv5_91⟩:∃ g c,v5_91 = .slice (some ⟨g,0,none⟩) (k+1) c:=by
     rcases r1_91.2 with ⟨_,h0⟩ | ⟨g,c,_,h2,_⟩
     ·omega
     ·exact ⟨g,c,h2⟩
    subst hv5_91
    have HG5_91:=hide (HGa_91.out.push n1a_91 r2_91 r1_91 HS_91.out (by omega))
    have hty_91:Ty w90 (w5_91.setCell ⟨gb,1,none⟩ (.slice (some ⟨g5_91,0,none⟩) (k+1) c5_91)):=(HTa_91.out.trans (.grown r2_91 (fun b hb=>by rw [row_tyAt HRa_91.out hb];exact .inr (.inr rfl)) (fun b hb=>by rw [row_tyAt HRa_91.out hb];decide) (fun b hb=>Nat.le_trans HGa_91.out.lo (Nat.le_of_succ_le (HRa_91.out.lt b hb).1)))).trans (.set (by rw [tyAt_block (r2_91.block gb HGa_91.out.lt ne_91)];exact HGa_91.out.mine) (by decide))
    clear r1_91 r2_91 r3_91 r4_91 ne_91
    have HR91:=hide hty_91
    have HP91:=hide (HP90.out.ty HR91.out)
    have HT91:=hide (HT90.out.trans (Ty.tf HR91.out))
    have HX91:=hide (Ty.same HR91.out HX90.out mine_tree)
    have HF91:=hide (HF90.out.ty HG90.out.ty HG90.out.lt HR91.out)
    have HG91:=hide HG5_91.out
    have c0_91:=HG91.out.c0
    clear hty_91
    go_wp2
    go_roundw
    case rel=>exact ⟨i+1,k+1,_,by omega,by go_num,by omega,by rw [List.length_append];simp only [List.length_cons,List.length_nil];omega,by rw [List.flatten_append,List.length_append,fl1];omega,HP91.out,HG91.out.mono (by omega),HT91.out,HF91.out.mono (by omega),HX91.out⟩
    case measure=>simp [intOf];omega
   by_cases hy4:z61=4
   ·subst hy4
    have HDC:=hide (fun w0=>decC_any i w0 (by omega))
    have hdl:=Tr.decC_len i
    generalize Tr.decC i=dc at *
    have hsz2:(⟨dc.toArray⟩:ByteArray).size≤1000:=by show dc.toArray.size≤_;simp;omega
    go_wp2_with fail
    refine (HDC.out _).mono ?_
    rintro e92 w92 ⟨rfl,b92⟩
    have HR92:=hide (TyM.of (M:=Mine) b92)
    have HP92:=hide (HP61.out.ty HR92.out)
    have HT92:=hide (HT61.out.trans (Ty.tf HR92.out))
    have HX92:=hide (Ty.same HR92.out HX61.out mine_tree)
    have HF92:=hide (HF61.out.ty HG61.out.ty HG61.out.lt HR92.out)
    have HG92:=hide (HG61.out.below b92)
    have c0_92:=HG92.out.c0
    clear b92
    have hsz3:((⟨#[115]⟩:ByteArray)++⟨dc.toArray⟩).size≤2000:=by rw [ByteArray.size_append];show 1+_≤_;omega
    generalize hst:(⟨#[115]⟩:ByteArray)++⟨dc.toArray⟩=st at *
    go_wp2_with fail
    try rw [hst]
    refine (Gn.pick HG92.out (by omega) 8 (by omega) (by omega)).mono ?_
    rintro e93 w93 ⟨z93,hz93,rfl,hg93,ht93⟩
    have HR93:=hide ht93
    have HP93:=hide (HP92.out.ty HR93.out)
    have HT93:=hide (HT92.out.trans (Ty.tf HR93.out))
    have HX93:=hide (Ty.same HR93.out HX92.out mine_tree)
    have HF93:=hide (HF92.out.ty HG92.out.ty HG92.out.lt HR93.out)
    have HG93:=hide hg93
    have c0_93:=HG93.out.c0
    clear hg93 ht93
    by_cases hu0:z93=0
    ·subst hu0
     go_wp2_with fail
     refine (Gn.pick HG93.out (by omega) 6 (by omega) (by omega)).mono ?_
     rintro e94 w94 ⟨z94,hz94,rfl,hg94,ht94⟩
     have HR94:=hide ht94
     have HP94:=hide (HP93.out.ty HR94.out)
     have HT94:=hide (HT93.out.trans (Ty.tf HR94.out))
     have HX94:=hide (Ty.same HR94.out HX93.out mine_tree)
     have HF94:=hide (HF93.out.ty HG93.out.ty HG93.out.lt HR94.out)
     have HG94:=hide hg94
     have c0_94:=HG94.out.c0
     clear hg94 ht94
     go_wp2_with fail
     refine (HE4.out _ _ _ _ HG94.out (by omega) (by omega)).mono ?_
     rintro e95 w95 ⟨v95,l95,rfl,nr95,pn95,mn95,hg95,ht95⟩
     have HR95:=hide ht95
     have HP95:=hide (HP94.out.ty HR95.out)
     have HT95:=hide (HT94.out.trans (Ty.tf HR95.out))
     have HX95:=hide (Ty.same HR95.out HX94.out mine_tree)
     have HF95:=hide (HF94.out.ty HG94.out.ty HG94.out.lt HR95.out)
     have HG95:=hide hg95
     have c0_95:=HG95.out.c0
     clear hg95 ht95
     obtain ⟨gq95,cq95,hv95⟩:=nr95.form pn95
     subst hv95
     have HNa95:=hide nr95
     clear nr95
     have HO:=hide (fun t (_hts:ByteArray.size t≤1000000)=>over_mk ⟨21,0,0,t,0⟩ [_] _ _ 34360 (pr1 HNa95.out pn95) (by rw [fl1];omega) (by omega) (by simp))
     unfold ndV at HO
     go_wp2_with fail
     refine (HO.out _ (by first | omega | (rw [ByteArray.size_append];show 1+_≤_;omega))).mono ?_
     rintro e96 w96 ⟨v96,l96,rfl,nr96,pn96,mn96,b96⟩
     have HR96:=hide (TyM.trans (TyM.of (M:=Mine) (bA _)) (TyM.of (M:=Mine) b96))
     have HP96:=hide (HP95.out.ty HR96.out)
     have HT96:=hide (HT95.out.trans (Ty.tf HR96.out))
     have HX96:=hide (Ty.same HR96.out HX95.out mine_tree)
     have HF96:=hide (HF95.out.ty HG95.out.ty HG95.out.lt HR96.out)
     have HG96:=hide ((HG95.out.below (bA _)).below b96)
     have c0_96:=HG96.out.c0
     clear b96
     obtain ⟨gq96,cq96,hv96⟩:=nr96.form pn96
     subst hv96
     have HNr96:=hide nr96
     clear nr96
     obtain ⟨vs97,pv97,pw97⟩:=HP96.out
     have HV97:=hide pv97
     have HW97:=hide pw97
     clear pv97 pw97
     have hz97:=HT96.out.size
     go_wp2_with (at_builtin;refine wpList_append_own_at _ rfl _ _ 94 rfl w.heap.size 48 iP _ 1 24 Tryz.underlying94 hP hPz hPs hPb rfl (by decide) _ ls.length vs97 rfl (HV97.out.alloc _) ⟨w96.heap.size,0,none⟩ 1 1 [.slice (some ⟨gq96,0,none⟩) l96.length cq96] rfl rfl (cells_litC _ [_] _ _ rfl) (by simp [Value.oneCell']) (by unfold maxLen;omega) (by omega) (by simp;omega) ?_)
     intro v97 w97 ra97 rb97 rc97 rd97
     obtain ⟨hp97,hpf97⟩:=pushed HV97.out HW97.out HNr96.out pn96 ra97 rb97
     obtain ⟨sp97,sc97,hs97⟩:=row_formP ra97
     subst hs97
     have HP97:=hide hp97
     have HG97:=hide (hpf97.gn HG96.out hrw)
     have HT97:=hide (hpf97.tyM HT96.out (Nat.le_refl _))
     have HX97:=hide (hpf97.same HX96.out (by decide))
     have HF97:=hide (HF96.out.pf HG96.out.ty HG96.out.lt hpf97)
     clear hp97 hpf97 ra97 rb97 rc97 rd97
     obtain ⟨vn_98,xs_98,n1_98,n2_98,n3_98⟩:=HG97.out.nm
     obtain ⟨np_98,nc_98,hvn_98⟩:=row_formP n2_98
     subst hvn_98
     have hlx_98:=n2_98.1
     have hkm_98:=HG97.out.km
     have bx_98:=(Below.refl w97.heap.size w97).alloc (Nat.le_refl _) (.cells #[.string ((⟨#[95]⟩:ByteArray)++st),.int .i64 (z94:Int)] 123)
     have HGa_98:=hide (HG97.out.below bx_98)
     have n1a_98:=(bx_98.cell (p:=⟨gb,1,none⟩) HG97.out.lt).trans n1_98
     have HRa_98:=hide (n2_98.alloc (.cells #[.string ((⟨#[95]⟩:ByteArray)++st),.int .i64 (z94:Int)] 123))
     have HS_98:=hide (n3_98.snoc hlx_98 ⟨((⟨#[95]⟩:ByteArray)++st),(by first | omega | (rw [ByteArray.size_append];show 1+_≤_;omega))⟩ (z94:Int))
     have HTa_98:Hid (Ty w97 (w97.alloc (.cells #[.string ((⟨#[95]⟩:ByteArray)++st),.int .i64 (z94:Int)] 123))):=hide (.of bx_98)
     have hrl_98:rb+1≤(w97.alloc (.cells #[.string ((⟨#[95]⟩:ByteArray)++st),.int .i64 (z94:Int)] 123)).heap.size:=by have:=HT97.out.size;simp;omega
     clear n2_98 n3_98 bx_98
     go_wp2_with (at_builtin;refine wpList_append_own_at _ rfl _ _ 100 rfl (rb+1) 123 iN _ 2 24 Tryz.underlying100 hNi hNz hNs hNb rfl (by decide) _ _ xs_98 rfl HRa_98.out ⟨w97.heap.size,0,none⟩ 1 1 [.string ((⟨#[95]⟩:ByteArray)++st),.int .i64 (z94:Int)] rfl rfl (cells_litC _ [_,_] _ _ rfl) (by simp [Value.oneCell']) (by unfold maxLen;omega) (by omega) hrl_98 ?_)
     intro v5_98 w5_98 r1_98 r2_98 r3_98 r4_98
     have ne_98:some gb≠(Value.slice np_98 k nc_98).ownBlock:=fun e=>by have h1:=row_tyAt HRa_98.out e.symm;rw [HGa_98.out.ty] at h1;cases h1
     have q5_98:=(World.cell?_of_block (a:=⟨gb,1,none⟩) (r2_98.block gb HGa_98.out.lt ne_98)).trans n1a_98
     have q6_98:=(World.frozen?_of_block (a:=⟨gb,1,none⟩) (r2_98.block gb HGa_98.out.lt ne_98)).trans (HGa_98.out.fr 1)
     obtain ⟨g5_98,c5_98,hv5_98⟩:∃ g c,v5_98 = .slice (some ⟨g,0,none⟩) (k+1) c:=by
      rcases r1_98.2 with ⟨_,h0⟩ | ⟨g,c,_,h2,_⟩
      ·omega
      ·exact ⟨g,c,h2⟩
     subst hv5_98
     have HG5_98:=hide (HGa_98.out.push n1a_98 r2_98 r1_98 HS_98.out (by omega))
     have hty_98:Ty w97 (w5_98.setCell ⟨gb,1,none⟩ (.slice (some ⟨g5_98,0,none⟩) (k+1) c5_98)):=(HTa_98.out.trans (.grown r2_98 (fun b hb=>by rw [row_tyAt HRa_98.out hb];exact .inr (.inr rfl)) (fun b hb=>by rw [row_tyAt HRa_98.out hb];decide) (fun b hb=>Nat.le_trans HGa_98.out.lo (Nat.le_of_succ_le (HRa_98.out.lt b hb).1)))).trans (.set (by rw [tyAt_block (r2_98.block gb HGa_98.out.lt ne_98)];exact HGa_98.out.mine) (by decide))
     clear r1_98 r2_98 r3_98 r4_98 ne_98
     have HR98:=hide hty_98
     have HP98:=hide (HP97.out.ty HR98.out)
     have HT98:=hide (HT97.out.trans (Ty.tf HR98.out))
     have HX98:=hide (Ty.same HR98.out HX97.out mine_tree)
     have HF98:=hide (HF97.out.ty HG97.out.ty HG97.out.lt HR98.out)
     have HG98:=hide HG5_98.out
     have c0_98:=HG98.out.c0
     clear hty_98
     go_wp2
     go_roundw
     case rel=>exact ⟨i+1,k+1,_,by omega,by go_num,by omega,by rw [List.length_append];simp only [List.length_cons,List.length_nil];omega,by rw [List.flatten_append,List.length_append,fl1];omega,HP98.out,HG98.out.mono (by omega),HT98.out,HF98.out.mono (by omega),HX98.out⟩
     case measure=>simp [intOf];omega
    have hu1:((z93:Int) == 0)=false:=by simp;omega
    go_wp2_with fail
    refine (Gn.pick HG93.out (by omega) 6 (by omega) (by omega)).mono ?_
    rintro e99 w99 ⟨z99,hz99,rfl,hg99,ht99⟩
    have HR99:=hide ht99
    have HP99:=hide (HP93.out.ty HR99.out)
    have HT99:=hide (HT93.out.trans (Ty.tf HR99.out))
    have HX99:=hide (Ty.same HR99.out HX93.out mine_tree)
    have HF99:=hide (HF93.out.ty HG93.out.ty HG93.out.lt HR99.out)
    have HG99:=hide hg99
    have c0_99:=HG99.out.c0
    clear hg99 ht99
    go_wp2_with fail
    refine (HE4.out _ _ _ _ HG99.out (by omega) (by omega)).mono ?_
    rintro e100 w100 ⟨v100,l100,rfl,nr100,pn100,mn100,hg100,ht100⟩
    have HR100:=hide ht100
    have HP100:=hide (HP99.out.ty HR100.out)
    have HT100:=hide (HT99.out.trans (Ty.tf HR100.out))
    have HX100:=hide (Ty.same HR100.out HX99.out mine_tree)
    have HF100:=hide (HF99.out.ty HG99.out.ty HG99.out.lt HR100.out)
    have HG100:=hide hg100
    have c0_100:=HG100.out.c0
    clear hg100 ht100
    obtain ⟨gq100,cq100,hv100⟩:=nr100.form pn100
    subst hv100
    have HNa100:=hide nr100
    clear nr100
    have HO:=hide (fun t (_hts:ByteArray.size t≤1000000)=>over_mk ⟨21,0,0,t,0⟩ [_] _ _ 34360 (pr1 HNa100.out pn100) (by rw [fl1];omega) (by omega) (by simp))
    unfold ndV at HO
    go_wp2_with fail
    refine (HO.out _ (by first | omega | (rw [ByteArray.size_append];show 1+_≤_;omega))).mono ?_
    rintro e101 w101 ⟨v101,l101,rfl,nr101,pn101,mn101,b101⟩
    have HR101:=hide (TyM.trans (TyM.of (M:=Mine) (bA _)) (TyM.of (M:=Mine) b101))
    have HP101:=hide (HP100.out.ty HR101.out)
    have HT101:=hide (HT100.out.trans (Ty.tf HR101.out))
    have HX101:=hide (Ty.same HR101.out HX100.out mine_tree)
    have HF101:=hide (HF100.out.ty HG100.out.ty HG100.out.lt HR101.out)
    have HG101:=hide ((HG100.out.below (bA _)).below b101)
    have c0_101:=HG101.out.c0
    clear b101
    obtain ⟨gq101,cq101,hv101⟩:=nr101.form pn101
    subst hv101
    have HNr101:=hide nr101
    clear nr101
    obtain ⟨vs102,pv102,pw102⟩:=HP101.out
    have HV102:=hide pv102
    have HW102:=hide pw102
    clear pv102 pw102
    have hz102:=HT101.out.size
    go_wp2_with (at_builtin;refine wpList_append_own_at _ rfl _ _ 94 rfl w.heap.size 48 iP _ 1 24 Tryz.underlying94 hP hPz hPs hPb rfl (by decide) _ ls.length vs102 rfl (HV102.out.alloc _) ⟨w101.heap.size,0,none⟩ 1 1 [.slice (some ⟨gq101,0,none⟩) l101.length cq101] rfl rfl (cells_litC _ [_] _ _ rfl) (by simp [Value.oneCell']) (by unfold maxLen;omega) (by omega) (by simp;omega) ?_)
    intro v102 w102 ra102 rb102 rc102 rd102
    obtain ⟨hp102,hpf102⟩:=pushed HV102.out HW102.out HNr101.out pn101 ra102 rb102
    obtain ⟨sp102,sc102,hs102⟩:=row_formP ra102
    subst hs102
    have HP102:=hide hp102
    have HG102:=hide (hpf102.gn HG101.out hrw)
    have HT102:=hide (hpf102.tyM HT101.out (Nat.le_refl _))
    have HX102:=hide (hpf102.same HX101.out (by decide))
    have HF102:=hide (HF101.out.pf HG101.out.ty HG101.out.lt hpf102)
    clear hp102 hpf102 ra102 rb102 rc102 rd102
    obtain ⟨vn_103,xs_103,n1_103,n2_103,n3_103⟩:=HG102.out.nm
    obtain ⟨np_103,nc_103,hvn_103⟩:=row_formP n2_103
    subst hvn_103
    have hlx_103:=n2_103.1
    have hkm_103:=HG102.out.km
    have bx_103:=(Below.refl w102.heap.size w102).alloc (Nat.le_refl _) (.cells #[.string st,.int .i64 (z99:Int)] 123)
    have HGa_103:=hide (HG102.out.below bx_103)
    have n1a_103:=(bx_103.cell (p:=⟨gb,1,none⟩) HG102.out.lt).trans n1_103
    have HRa_103:=hide (n2_103.alloc (.cells #[.string st,.int .i64 (z99:Int)] 123))
    have HS_103:=hide (n3_103.snoc hlx_103 ⟨st,(by first | omega | (rw [ByteArray.size_append];show 1+_≤_;omega))⟩ (z99:Int))
    have HTa_103:Hid (Ty w102 (w102.alloc (.cells #[.string st,.int .i64 (z99:Int)] 123))):=hide (.of bx_103)
    have hrl_103:rb+1≤(w102.alloc (.cells #[.string st,.int .i64 (z99:Int)] 123)).heap.size:=by have:=HT102.out.size;simp;omega
    clear n2_103 n3_103 bx_103
    go_wp2_with (at_builtin;refine wpList_append_own_at _ rfl _ _ 100 rfl (rb+1) 123 iN _ 2 24 Tryz.underlying100 hNi hNz hNs hNb rfl (by decide) _ _ xs_103 rfl HRa_103.out ⟨w102.heap.size,0,none⟩ 1 1 [.string st,.int .i64 (z99:Int)] rfl rfl (cells_litC _ [_,_] _ _ rfl) (by simp [Value.oneCell']) (by unfold maxLen;omega) (by omega) hrl_103 ?_)
    intro v5_103 w5_103 r1_103 r2_103 r3_103 r4_103
    have ne_103:some gb≠(Value.slice np_103 k nc_103).ownBlock:=fun e=>by have h1:=row_tyAt HRa_103.out e.symm;rw [HGa_103.out.ty] at h1;cases h1
    have q5_103:=(World.cell?_of_block (a:=⟨gb,1,none⟩) (r2_103.block gb HGa_103.out.lt ne_103)).trans n1a_103
    have q6_103:=(World.frozen?_of_block (a:=⟨gb,1,none⟩) (r2_103.block gb HGa_103.out.lt ne_103)).trans (HGa_103.out.fr 1)
    obtain ⟨g5_103,c5_103,hv5_103⟩:∃ g c,v5_103 = .slice (some ⟨g,0,none⟩) (k+1) c:=by
     rcases r1_103.2 with ⟨_,h0⟩ | ⟨g,c,_,h2,_⟩
     ·omega
     ·exact ⟨g,c,h2⟩
    subst hv5_103
    have HG5_103:=hide (HGa_103.out.push n1a_103 r2_103 r1_103 HS_103.out (by omega))
    have hty_103:Ty w102 (w5_103.setCell ⟨gb,1,none⟩ (.slice (some ⟨g5_103,0,none⟩) (k+1) c5_103)):=(HTa_103.out.trans (.grown r2_103 (fun b hb=>by rw [row_tyAt HRa_103.out hb];exact .inr (.inr rfl)) (fun b hb=>by rw [row_tyAt HRa_103.out hb];decide) (fun b hb=>Nat.le_trans HGa_103.out.lo (Nat.le_of_succ_le (HRa_103.out.lt b hb).1)))).trans (.set (by rw [tyAt_block (r2_103.block gb HGa_103.out.lt ne_103)];exact HGa_103.out.mine) (by decide))
    clear r1_103 r2_103 r3_103 r4_103 ne_103
    have HR103:=hide hty_103
    have HP103:=hide (HP102.out.ty HR103.out)
    have HT103:=hide (HT102.out.trans (Ty.tf HR103.out))
    have HX103:=hide (Ty.same HR103.out HX102.out mine_tree)
    have HF103:=hide (HF102.out.ty HG102.out.ty HG102.out.lt HR103.out)
    have HG103:=hide HG5_103.out
    have c0_103:=HG103.out.c0
    clear hty_103
    go_wp2
    go_roundw
    case rel=>exact ⟨i+1,k+1,_,by omega,by go_num,by omega,by rw [List.length_append];simp only [List.length_cons,List.length_nil];omega,by rw [List.flatten_append,List.length_append,fl1];omega,HP103.out,HG103.out.mono (by omega),HT103.out,HF103.out.mono (by omega),HX103.out⟩
    case measure=>simp [intOf];omega
   have hx0:((z61:Int) == 0)=false:=by simp;omega
   have hx1:((z61:Int) == 1)=false:=by simp;omega
   have hx2:((z61:Int) == 2)=false:=by simp;omega
   have hx3:((z61:Int) == 3)=false:=by simp;omega
   have hx4:((z61:Int) == 4)=false:=by simp;omega
   go_wp2_with fail
   refine (HE3.out _ _ _ _ HG61.out (by omega) (by omega)).mono ?_
   rintro e104 w104 ⟨v104,l104,rfl,nr104,pn104,mn104,hg104,ht104⟩
   have HR104:=hide ht104
   have HP104:=hide (HP61.out.ty HR104.out)
   have HT104:=hide (HT61.out.trans (Ty.tf HR104.out))
   have HX104:=hide (Ty.same HR104.out HX61.out mine_tree)
   have HF104:=hide (HF61.out.ty HG61.out.ty HG61.out.lt HR104.out)
   have HG104:=hide hg104
   have c0_104:=HG104.out.c0
   clear hg104 ht104
   obtain ⟨gq104,cq104,hv104⟩:=nr104.form pn104
   subst hv104
   have HNa104:=hide nr104
   clear nr104
   have HO:=hide (over_mk ⟨22,0,0,⟨#[]⟩,0⟩ [_] _ _ 6860 (pr1 HNa104.out pn104) (by rw [fl1];omega) (by omega) (by simp))
   unfold ndV at HO
   go_wp2_with fail
   refine (HO.out).mono ?_
   rintro e105 w105 ⟨v105,l105,rfl,nr105,pn105,mn105,b105⟩
   have HR105:=hide (TyM.trans (TyM.of (M:=Mine) (bA _)) (TyM.of (M:=Mine) b105))
   have HP105:=hide (HP104.out.ty HR105.out)
   have HT105:=hide (HT104.out.trans (Ty.tf HR105.out))
   have HX105:=hide (Ty.same HR105.out HX104.out mine_tree)
   have HF105:=hide (HF104.out.ty HG104.out.ty HG104.out.lt HR105.out)
   have HG105:=hide ((HG104.out.below (bA _)).below b105)
   have c0_105:=HG105.out.c0
   clear b105
   obtain ⟨gq105,cq105,hv105⟩:=nr105.form pn105
   subst hv105
   have HNr105:=hide nr105
   clear nr105
   obtain ⟨vs106,pv106,pw106⟩:=HP105.out
   have HV106:=hide pv106
   have HW106:=hide pw106
   clear pv106 pw106
   have hz106:=HT105.out.size
   go_wp2_with (at_builtin;refine wpList_append_own_at _ rfl _ _ 94 rfl w.heap.size 48 iP _ 1 24 Tryz.underlying94 hP hPz hPs hPb rfl (by decide) _ ls.length vs106 rfl (HV106.out.alloc _) ⟨w105.heap.size,0,none⟩ 1 1 [.slice (some ⟨gq105,0,none⟩) l105.length cq105] rfl rfl (cells_litC _ [_] _ _ rfl) (by simp [Value.oneCell']) (by unfold maxLen;omega) (by omega) (by simp;omega) ?_)
   intro v106 w106 ra106 rb106 rc106 rd106
   obtain ⟨hp106,hpf106⟩:=pushed HV106.out HW106.out HNr105.out pn105 ra106 rb106
   obtain ⟨sp106,sc106,hs106⟩:=row_formP ra106
   subst hs106
   have HP106:=hide hp106
   have HG106:=hide (hpf106.gn HG105.out hrw)
   have HT106:=hide (hpf106.tyM HT105.out (Nat.le_refl _))
   have HX106:=hide (hpf106.same HX105.out (by decide))
   have HF106:=hide (HF105.out.pf HG105.out.ty HG105.out.lt hpf106)
   clear hp106 hpf106 ra106 rb106 rc106 rd106
   go_wp2
   go_roundw
   case rel=>exact ⟨i+1,k,_,by omega,by go_num,by omega,by rw [List.length_append];simp only [List.length_cons,List.length_nil];omega,by rw [List.flatten_append,List.length_append,fl1];omega,HP106.out,HG106.out.mono (by omega),HT106.out,HF106.out.mono (by omega),HX106.out⟩
   case measure=>simp [intOf];omega
  ·have HO:=hide (over_mk ⟨24,0,0,⟨#[]⟩,0⟩ ls _ _ 240000 HPr.out.pr (by omega) (by omega) (by omega))
   unfold ndV at HO
   go_wp2_with fail
   refine HO.out.mono ?_
   rintro e6 w6 ⟨v6,l6,rfl,nr6,p6,m6,b6⟩
   obtain ⟨g6,c6,hv6⟩:=nr6.form p6
   subst hv6
   have hX6:=TyM.same HXr.out b6
   have t0:=(box_cell hX6).1
   have ft:=(box_cell hX6).2
   have hty:tyAt w6 w.heap.size≠some 82:=by unfold tyAt;rw [hX6];decide
   have HN6:Hid (NR (w6.setCell ⟨w.heap.size,0,none⟩ (.slice (some ⟨g6,0,none⟩) l6.length c6)) (.slice (some ⟨g6,0,none⟩) l6.length c6) l6):=hide ⟨row_setC nr6.1 hty,nr6.2⟩
   have HG6:=hide (gn_set (o:=0) (v:= .slice (some ⟨g6,0,none⟩) l6.length c6) (HGr.out.below b6) hrw hX6)
   have HT6:=hide (set_aboveM (o:=0) (v:= .slice (some ⟨g6,0,none⟩) l6.length c6) (HTr.out.trans (.of b6)) (Nat.le_refl _))
   clear nr6 b6 hX6
   go_wp2
   exact bodyPost_ret (v:= .agg #[.slice (some ⟨g6,0,none⟩) l6.length c6]) (by simp [results,Tryz.results62,go_sem,t0]) rfl ⟨_,_,k,rfl,HN6.out,p6,by omega,HG6.out.mono (by omega),HT6.out⟩
end Go.Proofs.YtbckhbeebngjfaaGreatDoor
