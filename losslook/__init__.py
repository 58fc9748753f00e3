"""Pictures without loss in WebP's form."""
