package table

import (
	"iter"
	"slices"
)

// bucketCount keeps the lists short when a table has as many rows as it may.
const bucketCount = 256

// buckets are rows in lists, by their hash.
type buckets[R any] struct {
	lists [bucketCount][]R
}

func (b *buckets[R]) list(hash uint32) *[]R {
	return &b.lists[hash%bucketCount]
}

func (b *buckets[R]) add(hash uint32, r R) {
	l := b.list(hash)
	*l = append(*l, r)
}

// find is where the row stands, till another one is added or removed; nil, if there is none.
func (b *buckets[R]) find(hash uint32, is func(R) bool) *R {
	l := *b.list(hash)
	at := slices.IndexFunc(l, is)
	if at < 0 {
		return nil
	}
	return &l[at]
}

func (b *buckets[R]) remove(hash uint32, is func(R) bool) {
	l := b.list(hash)
	*l = slices.DeleteFunc(*l, is)
}

// all yields the rows, in no order that means anything.
func (b *buckets[R]) all() iter.Seq[R] {
	return func(yield func(R) bool) {
		for _, l := range b.lists {
			for _, r := range l {
				if !yield(r) {
					return
				}
			}
		}
	}
}

// copied has lists of its own, so that what is set in the one is not set in the other.
func copied[R any](b *buckets[R]) buckets[R] {
	var other buckets[R]
	for i, l := range b.lists {
		other.lists[i] = slices.Clone(l)
	}
	return other
}
