"""A laundry: labelled things are brought, washed in machines, packed and given out."""
