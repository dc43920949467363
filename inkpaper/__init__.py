"""Pictures of pages told as ink and paper."""
